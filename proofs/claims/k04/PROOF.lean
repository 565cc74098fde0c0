import PyProof.Rows.All
import Wide.All
import OpenK.AllK
import Wide.FinOn
import PySem.Challenge.RW_spelledways_k04_whole_maps_writes_ranges
import KE.KStateDown
import HandS.Walk
import HandS.Defaults
import HandS.ForMost
import HandS.ForExc
import HandS.TupAny
import HandS.Wide
import HandS.Deep
import HandS.Style
import HandS.Head0
import HandS.Head1
import HandS.Head2
import HandS.HeadEnd
import HandS.ExcInit
import HandS.ExcField
import HandS.HeadHook1
import HandS.HeadHook2
import HandS.HeadHook3
import HandS.HeadHook4
import HandS.More
import HandS.EndBits
import PyProof.ExcBaseAll.Exception
import PyProof.ExcBaseAll.LookupError
import HandS.Zip
import KE.GoesZip
import KE.GoesMore
import HandS.IsInst
import HandS.SortInts
import HandS.Conv
import HandS.TryMany
import HandS.ExcIs
import KE.KIsAll
import HandS.TupMul
import HandS.Lambda
import HandS.EndTab
import HandS.HeadWalk
import KE.KExcIs
import HandS.CallLocal
import HandS.Proxy
import HandS.RaiseMore
set_option Elab.async false
set_option linter.all false
set_option maxRecDepth 100000
set_option maxHeartbeats 0
/-! The run of the head, first of all: it wants much memory. -/
namespace DL
open PySem PySem.Spec
open PyProof.Rows
open L2
abbrev exTl : List Value := [.type "Exception", .type "BaseException", .type "object"]
abbrev lkTl : List Value := [.type "LookupError", .type "Exception", .type "BaseException", .type "object"]
def endsIn (tl : List Value) : List Value → Bool
  | .ref _ :: r => endsIn tl r
  | l => decide (l = tl) || decide (l = .type "KeyError" :: tl)
def ownB (K : PySem.W.Frag) (C : Addr) (tl : List Value) (nw : String) : Bool := match K.lookup C with
  | some ⟨.type ty, _, .cls ⟨_, _, .ref C' :: tail, _, _, dct, _, _, _, _, gone⟩, ⟨[_, _, _, _, some (.builtin made), _]⟩⟩ => decide (ty = "type") && (decide (C' = C) && (decide (made = nw) && (dct && (!gone && endsIn tl tail))))
  | _ => false
def erG (K : PySem.W.Frag) (tl : List Value) (nw : String) (x f : Str) : Bool :=
  ownB K (He.ga K x) tl nw && (He.eqO (PySem.W.findIn K (.ref (He.ga K x)) "__setattr__") (some (some (.builtin "object.__setattr__"))) && (decide (PySem.W.subIn K (.ref (He.ga K x)) (.type "BaseException") = some true) &&
  (decide (PySem.W.typeIn K (.ref (He.ga K x)) = some (.type "type")) && (PySem.W.keepIn K (.ref (He.ga K x)) && (He.eqO (PySem.W.findIn K (.ref (He.ga K x)) "__init__") (some (some (.ref (He.ma K (He.ga K x) "__init__")))) &&
  (decide (PySem.W.typeIn K (.ref (He.ma K (He.ga K x) "__init__")) = some (.type "function")) && (xfB K (He.ga K x) && (He.eqO (PySem.W.findIn K (.ref (He.ga K x)) f) (some none) && He.eqO (PySem.W.nsIn K mainGlobals x) (some (some (.ref (He.ga K x))))))))))))
abbrev erB (K : PySem.W.Frag) (x f : Str) : Bool := erG K exTl "Exception.__new__" x f
abbrev erK (K : PySem.W.Frag) (x f : Str) : Bool := erG K lkTl "LookupError.__new__" x f
end DL
namespace K04
open PySem PySem.Spec
open PyProof.Rows L2 DL
def top (i : Nat) : Stmt := PySem.Challenge.pw_spelledways_k04_whole_maps_writes_ranges.main.body.getD i (.Pass ⟨0, 0, 0, 0⟩)
abbrev c_KEY_SIGNS : Str := "0123456789_abcdefghijklmnopqrstuvwxyz"
abbrev c_TEXT_SIGNS : Str := " _-.:/0123456789abcdefghijklmnopqrstuvwxyzABCDEFGHIJKLMNOPQRSTUVWXYZ"
def bodyC : Stmt → List Stmt
  | .ClassDef _ _ _ b _ _ _ _ _ _ _ => b
  | _ => []
abbrev ini (i : Nat) : Stmt := (bodyC (top i)).getD 0 (.Pass ⟨0, 0, 0, 0⟩)
def dd (x : Str) (i : Nat) : He.DefD := ⟨(x, none), x, x, defArgs (top i), defBody (top i), defScope (top i), [], []⟩
def fn : List He.DefD := ([⟨("InvalidOctets", some "__init__"), "__init__", "InvalidOctets.__init__", defArgs (ini 2), defBody (ini 2), defScope (ini 2), [], []⟩, ⟨("NoName", some "__init__"), "__init__", "NoName.__init__", defArgs (ini 3), defBody (ini 3), defScope (ini 3), [], []⟩, dd "codes_of" 11, dd "sign_at" 12, dd "put_number" 13, dd "get_number" 14, dd "put_integer" 15, dd "get_integer" 16, dd "put_numbers" 17, dd "get_numbers" 18, dd "put_key" 19, dd "get_key" 20, dd "put_text" 21, dd "get_text" 22, dd "put_value" 23, dd "get_value" 24, dd "put_writes" 25, dd "get_pairs" 26, dd "get_writes" 27, dd "put_entries" 28, dd "get_entries" 29, dd "put_end" 30, dd "get_end" 31, dd "put_range" 32] : List He.DefD) ++ ([dd "get_range" 33, dd "read_whole" 35, dd "_law_heap" 37, dd "_law_draw" 38, dd "_law_pick" 39, dd "_law_keys" 40, dd "_law_text" 41, dd "_law_integer" 42, dd "_law_value" 43, dd "_law_number_at" 44, dd "_law_key_at" 45, dd "_law_text_at" 46, dd "_law_value_at" 47, dd "_law_pairs_at" 48, dd "_law_numbers_at" 49, dd "_law_range_at" 50, dd "_law_read" 51, dd "_law_thing" 52, dd "_law_put" 53, dd "_law_got" 54, dd "_law_heard" 55, dd "_law_bent" 56, dd "_law_any_right" 57, dd "_law_two" 58] : List He.DefD) ++ ([dd "law" 59] : List He.DefD)
def fa : List He.Fa := ([.int "MOST_NUMBER_OCTETS" 9, .int "MOST_KEY_SIGNS" 16, .int "MOST_TEXT_SIGNS" 32, .int "GREATEST_VALUE" 1000000000000000000, .str "KEY_SIGNS" c_KEY_SIGNS, .str "TEXT_SIGNS" c_TEXT_SIGNS, .free "len", .free "ord", .free "tuple", .free "list", .free "range", .free "int", .free "str", .free "abs", .free "repr", .free "min", .free "sorted", .free "isinstance", .glo "codes_of", .glo "sign_at", .glo "put_number", .glo "get_number", .glo "put_integer", .glo "get_integer"] : List He.Fa) ++ ([.glo "put_numbers", .glo "get_numbers", .glo "put_key", .glo "get_key", .glo "put_text", .glo "get_text", .glo "put_value", .glo "get_value", .glo "put_writes", .glo "get_pairs", .glo "get_writes", .glo "put_entries", .glo "get_entries", .glo "put_end", .glo "get_end", .glo "put_range", .glo "get_range", .glo "read_whole", .glo "_law_heap", .glo "_law_draw", .glo "_law_pick", .glo "_law_keys", .glo "_law_text", .glo "_law_integer"] : List He.Fa) ++ ([.glo "_law_value", .glo "_law_number_at", .glo "_law_key_at", .glo "_law_text_at", .glo "_law_value_at", .glo "_law_pairs_at", .glo "_law_numbers_at", .glo "_law_range_at", .glo "_law_read", .glo "_law_thing", .glo "_law_put", .glo "_law_got", .glo "_law_heard", .glo "_law_bent", .glo "_law_any_right", .glo "_law_two", .glo "law", .glo "StoreError", .glo "READERS", .exm "InvalidOctets" "InvalidOctets" true] : List He.Fa)
def tf : List He.Defn := [("_law_any_right", none)]
def ts : List He.Tab := [(fun K => He.ga K "READERS", ["number", "integer", "numbers", "key", "text", "value", "writes", "entries", "range"])]
def excB (K : PySem.W.Frag) (D : Addr) : Bool := He.eqO (PySem.W.findIn K (.ref D) "__getattribute__") (some (some (.builtin "BaseException.__getattribute__"))) && (He.eqO (PySem.W.findIn K (.ref D) "__getattr__") (some none) && (decide (PySem.W.subIn K (.ref D) (.type "BaseException") = some true) && (PySem.W.hasDictIn K D && (He.eqO (PySem.W.findIn K (.ref D) "__class__") (some (some (.builtin "object.__class__"))) &&
  (He.eqO (PySem.W.specialIn K (.builtin "object.__class__") "__get__") (some (some (.builtin "getset_descriptor.__get__"))) && (decide (PySem.W.takesIn K (.builtin "object.__class__") = some true) && decide (PySem.W.mroIn K D (.type "object") = some true)))))))
def kinB (K : PySem.W.Frag) : Bool := excB K (He.ga K "InvalidOctets") && decide (PySem.W.kitOne K (.ref (He.ga K "InvalidOctets")) (.ref (He.ga K "StoreError")) = some true)
def rdB (K : PySem.W.Frag) : Bool := He.eqO (PySem.W.nsIn K (He.ga K "READERS") "numbers") (some (some (.ref (He.ga K "get_numbers")))) && (He.eqO (PySem.W.nsIn K (He.ga K "READERS") "range") (some (some (.ref (He.ga K "get_range")))) && (He.eqO (PySem.W.nsIn K (He.ga K "READERS") "entries") (some (some (.ref (He.ga K "get_entries")))) && He.eqO (PySem.W.nsIn K (He.ga K "READERS") "writes") (some (some (.ref (He.ga K "get_writes"))))))
def ex (K : PySem.W.Frag) : Bool := erB K "InvalidOctets" "at" && (erK K "NoName" "name" && (kinB K && rdB K))
abbrev R : PySem.W.OpenRow := PySem.W.OpenLaw.row PySem.Challenge.rw_spelledways_k04_whole_maps_writes_ranges
abbrev hk : PySem.W.Hook := He.hookX 6 fa fn ts tf ex
def ob (s : PySem.W.SharedT) : He.AlX := He.obsX 6 fa fn ts tf ex (HandSHeadRun.getT s)
theorem ob_eq (s : PySem.W.SharedT) : ob s = hk.obs s.abs := He.obsX_eq (HandSHeadRun.getT_eq s)
def loose0 : List Str := ["StoreError", "InvalidOctets", "NoName", "KEY_SIGNS", "TEXT_SIGNS", "MOST_KEY_SIGNS", "MOST_TEXT_SIGNS", "GREATEST_VALUE", "MOST_NUMBER_OCTETS", "codes_of", "sign_at", "put_number", "get_number", "put_integer", "get_integer", "put_numbers", "get_numbers", "put_key", "get_key", "put_text", "get_text", "put_value", "get_value", "put_writes"]
def loose1 : List Str := ["get_pairs", "get_writes", "put_entries", "get_entries", "put_end", "get_end", "put_range", "get_range", "READERS", "read_whole", "_law_heap", "_law_draw", "_law_pick", "_law_keys", "_law_text", "_law_integer", "_law_value", "_law_number_at", "_law_key_at", "_law_text_at", "_law_value_at", "_law_pairs_at", "_law_numbers_at", "_law_range_at"]
def loose2 : List Str := ["_law_read", "_law_thing", "_law_put", "_law_got", "_law_heard", "_law_bent", "_law_any_right", "_law_two"]
def loose : List Str := loose0 ++ loose1 ++ loose2
/-- a world, one of its answers told apart -/
def setW (w : World) (b : Bool) : World := { w with params := { w.params with followText := fun row => bif row == "special-get-raises" then b else w.params.followText row } }
theorem setW_eq (w : World) : w = setW w (w.params.followText "special-get-raises") := by
  unfold setW
  have e : (fun row => bif row == "special-get-raises" then w.params.followText "special-get-raises" else w.params.followText row) = w.params.followText := by
    funext row
    cases h : (row == "special-get-raises") with
    | true => rw [eq_of_beq h]; rfl
    | false => rfl
  rw [e]
theorem runB (w : World) (b : Bool) : HandSHeadRun.RunEq R (PySem.W.view R.prog [59]) hk ob 8000 loose (setW w b) := by
  intro os
  cases b <;> kernel_rfl
theorem run (w : World) : HandSHeadRun.RunEq R (PySem.W.view R.prog [59]) hk ob 8000 loose w := by
  rw [setW_eq w]
  exact runB w _
end K04

/-! Data upon the hand layer: what an expression comes to, as plain data, while some objects are known for good (J) and the rest of the heap may only grow. -/
namespace DL
open PySem L2

/-- every object of the one heap stands in the other -/
def Sub (J H : Hp) : Prop := ∀ a o, J a = some o → H a = some o
theorem Sub.refl (H : Hp) : Sub H H := fun _ _ h => h
theorem Sub.trans {J H G : Hp} (p : Sub J H) (q : Sub H G) : Sub J G := fun a o h => q a o (p a o h)
theorem Sub.back {J H : Hp} (p : Sub J H) {a : Addr} (h : H a = none) : J a = none := by
  cases e : J a with
  | none => rfl
  | some o => rw [p a o e] at h; cases h
theorem Sub.new {H : Hp} {p : Addr} {o : HO} (h : H p = none) : Sub H (upd H p o) := fun a u e => by
  rw [upd_ne (ne_of_none e h)]; exact e
theorem Sub.both {J H : Hp} (s : Sub J H) {p : Addr} {o : HO} : Sub (upd J p o) (upd H p o) := fun a u e => by
  by_cases h : a = p
  · rw [h, upd_same] at e ⊢; exact e
  · rw [upd_ne h] at e ⊢; exact s a u e
theorem Sub.rd {J H : Hp} (s : Sub J H) {a : Addr} {u : HO} (h : Rd J a u) : Rd H a u := by
  rcases h with h | ⟨o, h⟩
  · exact .inl (s _ _ h)
  · exact .inr ⟨o, s _ _ h⟩
theorem Sub.l {K : PySem.W.Frag} {J H : Hp} (s : Sub J H) {a : Addr} {xs : List V} (h : SqL K J a xs) : SqL K H a xs := by
  rcases h with h | h
  · exact .inl (s.rd h)
  · exact .inr h
theorem Sub.t {K : PySem.W.Frag} {J H : Hp} (s : Sub J H) {a : Addr} {xs : List V} (h : SqT K J a xs) : SqT K H a xs := by
  rcases h with h | h
  · exact .inl (s.rd h)
  · exact .inr h
/-! a value is a datum; lists are such as stand in J itself -/
mutual
inductive Da (K : PySem.W.Frag) (J : Hp) : V → PyData → Prop
  | non : Da K J .non .none
  | bl (b : Bool) : Da K J (.bl b) (.bool b)
  | int (i : Int) : Da K J (.int i) (.int i)
  | str (x : Str) : Da K J (.str x) (.str x)
  | lst {a : Addr} {xs : List V} {ds : List PyData} : J a = some (.lst xs) → Das K J xs ds → Da K J (.ref a) (.list ds)
  | tup {a : Addr} {xs : List V} {ds : List PyData} : SqT K J a xs → Das K J xs ds → Da K J (.ref a) (.tuple ds)
inductive Das (K : PySem.W.Frag) (J : Hp) : List V → List PyData → Prop
  | nil : Das K J [] []
  | cons {v : V} {vs : List V} {d : PyData} {ds : List PyData} : Da K J v d → Das K J vs ds → Das K J (v :: vs) (d :: ds)
end
mutual
theorem Da.dp {K : PySem.W.Frag} {J H : Hp} (s : Sub J H) : ∀ {d : PyData} {v : V}, Da K J v d → Dp K H v d
  | .none, _, h => by cases h; exact .non
  | .bool _, _, h => by cases h; exact .bl _
  | .int _, _, h => by cases h; exact .int _
  | .str _, _, h => by cases h; exact .str _
  | .list ds, _, h => by
    cases h with
    | lst a b => exact .lst (.of (s _ _ a)) (Das.dp s b)
  | .tuple ds, _, h => by
    cases h with
    | tup a b => exact .tup (s.t a) (Das.dp s b)
  | .dict _, _, h => by cases h
theorem Das.dp {K : PySem.W.Frag} {J H : Hp} (s : Sub J H) : ∀ {ds : List PyData} {vs : List V}, Das K J vs ds → DpAll K H vs ds
  | [], _, h => by cases h; exact .nil
  | _ :: _, _, h => by
    cases h with
    | cons a b => exact .cons (Da.dp s a) (Das.dp s b)
end
mutual
theorem Sub.da {K : PySem.W.Frag} {J H : Hp} (s : Sub J H) : ∀ {d : PyData} {v : V}, Da K J v d → Da K H v d
  | .none, _, h => by cases h; exact .non
  | .bool _, _, h => by cases h; exact .bl _
  | .int _, _, h => by cases h; exact .int _
  | .str _, _, h => by cases h; exact .str _
  | .list ds, _, h => by
    cases h with
    | lst a b => exact .lst (s _ _ a) (Sub.das s b)
  | .tuple ds, _, h => by
    cases h with
    | tup a b => exact .tup (s.t a) (Sub.das s b)
  | .dict _, _, h => by cases h
theorem Sub.das {K : PySem.W.Frag} {J H : Hp} (s : Sub J H) : ∀ {ds : List PyData} {vs : List V}, Das K J vs ds → Das K H vs ds
  | [], _, h => by cases h; exact .nil
  | _ :: _, _, h => by
    cases h with
    | cons a b => exact .cons (Sub.da s a) (Sub.das s b)
end
theorem das_len {K : PySem.W.Frag} {J : Hp} : ∀ {vs : List V} {ds : List PyData}, Das K J vs ds → vs.length = ds.length
  | [], _, h => by cases h; rfl
  | _ :: _, _, h => by
    cases h with
    | cons _ b => simp [das_len b]
theorem das_at {K : PySem.W.Frag} {J : Hp} : ∀ {vs : List V} {ds : List PyData} {i : Nat} {v : V}, Das K J vs ds → vs[i]? = some v → ∃ d, ds[i]? = some d ∧ Da K J v d
  | [], _, _, _, _, e => by simp at e
  | _ :: _, _, i, _, h, e => by
    cases h with
    | cons a b =>
      cases i with
      | zero => simp at e; subst e; exact ⟨_, rfl, a⟩
      | succ i => simpa using das_at b (by simpa using e)
theorem das_get {K : PySem.W.Frag} {J : Hp} : ∀ {vs : List V} {ds : List PyData} {i : Nat} {d : PyData}, Das K J vs ds → ds[i]? = some d → ∃ v, vs[i]? = some v ∧ Da K J v d
  | _, [], _, _, _, e => by simp at e
  | _, _ :: _, i, _, h, e => by
    cases h with
    | cons a b =>
      cases i with
      | zero => simp at e; subst e; exact ⟨_, rfl, a⟩
      | succ i => simpa using das_get b (by simpa using e)
theorem das_app {K : PySem.W.Frag} {J : Hp} : ∀ {vs ws : List V} {ds es : List PyData}, Das K J vs ds → Das K J ws es → Das K J (vs ++ ws) (ds ++ es)
  | [], _, _, _, h, g => by cases h; exact g
  | _ :: _, _, _, _, h, g => by
    cases h with
    | cons a b => exact .cons a (das_app b g)
theorem das_drop {K : PySem.W.Frag} {J : Hp} : ∀ {vs : List V} {ds : List PyData} (n : Nat), Das K J vs ds → Das K J (vs.drop n) (ds.drop n)
  | _, _, 0, h => h
  | [], _, n + 1, h => by cases h; exact .nil
  | _ :: _, _, n + 1, h => by
    cases h with
    | cons _ b => exact das_drop n b
theorem das_take {K : PySem.W.Frag} {J : Hp} : ∀ {vs : List V} {ds : List PyData} (n : Nat), Das K J vs ds → Das K J (vs.take n) (ds.take n)
  | _, _, 0, _ => .nil
  | [], _, n + 1, h => by cases h; exact .nil
  | _ :: _, _, n + 1, h => by
    cases h with
    | cons a b => exact .cons a (das_take n b)
theorem das_rev {K : PySem.W.Frag} {J : Hp} : ∀ {vs : List V} {ds : List PyData}, Das K J vs ds → Das K J vs.reverse ds.reverse
  | [], _, h => by cases h; exact .nil
  | _ :: _, _, h => by
    cases h with
    | cons a b =>
      rw [List.reverse_cons, List.reverse_cons]
      exact das_app (das_rev b) (.cons a .nil)
theorem das_ints {K : PySem.W.Frag} {J : Hp} : ∀ ns : List Int, Das K J (ns.map V.int) (ns.map PyData.int)
  | [] => .nil
  | n :: ns => .cons (.int n) (das_ints ns)
theorem da_int {K : PySem.W.Frag} {J : Hp} {v : V} {i : Int} (h : Da K J v (.int i)) : v = .int i := by cases h; rfl
theorem da_bl {K : PySem.W.Frag} {J : Hp} {v : V} {b : Bool} (h : Da K J v (.bool b)) : v = .bl b := by cases h; rfl
theorem da_str {K : PySem.W.Frag} {J : Hp} {v : V} {x : Str} (h : Da K J v (.str x)) : v = .str x := by cases h; rfl
theorem da_non {K : PySem.W.Frag} {J : Hp} {v : V} (h : Da K J v .none) : v = .non := by cases h; rfl
theorem da_lst {K : PySem.W.Frag} {J : Hp} {v : V} {ds : List PyData} (h : Da K J v (.list ds)) : ∃ a xs, v = .ref a ∧ J a = some (.lst xs) ∧ Das K J xs ds := by
  cases h with
  | lst p q => exact ⟨_, _, rfl, p, q⟩
theorem da_tup {K : PySem.W.Frag} {J : Hp} {v : V} {ds : List PyData} (h : Da K J v (.tuple ds)) : ∃ a xs, v = .ref a ∧ SqT K J a xs ∧ Das K J xs ds := by
  cases h with
  | tup p q => exact ⟨_, _, rfl, p, q⟩
theorem das_ints_eq {K : PySem.W.Frag} {J : Hp} : ∀ {vs : List V} {ns : List Int}, Das K J vs (ns.map PyData.int) → vs = ns.map V.int
  | [], [], _ => rfl
  | [], _ :: _, h => by cases h
  | _ :: _, [], h => by cases h
  | _ :: _, _ :: _, h => by
    cases h with
    | cons a b => rw [da_int a, das_ints_eq b]; rfl

/-! ### what may change, and how the heap goes on -/
/-- fp: the objects that may change; inv: what stays true of them; tb: whether tables of code objects may grow -/
structure Md where
  fp : Addr → Prop
  inv : Hp → Prop
  tb : Bool
  loc : ∀ H H' : Hp, (∀ a, fp a → H' a = H a) → (∀ a o, H a = some o → (∀ ys, o ≠ .lst ys) → H' a = some o) → inv H → inv H'
  there : ∀ H : Hp, inv H → ∀ a, fp a → ∃ o, H a = some o ∧ (tb = true → ∀ ps, o ≠ .tbl ps)
/-- no table, where tables may grow -/
abbrev Nt (M : Md) (o : HO) : Prop := M.tb = true → ∀ ps, o ≠ .tbl ps
/-- nothing may change -/
def Md.pure : Md := ⟨fun _ => False, fun _ => True, false, fun _ _ _ _ h => h, fun _ _ _ h => h.elim⟩
structure Wf (M : Md) (J H : Hp) : Prop where
  jh : Sub J H
  inv : M.inv H
  jn : ∀ a, M.fp a → J a = none
  nt : M.tb = true → ∀ a ps, J a ≠ some (.tbl ps)
theorem Wf.out {M : Md} {J H : Hp} (w : Wf M J H) (a : Addr) (h : M.fp a) : J a = none ∧ H a ≠ none := ⟨w.jn a h, by
  obtain ⟨o, e, _⟩ := M.there H w.inv a h
  rw [e]
  exact nofun⟩
structure Tr (M : Md) (J H J' H' : Hp) : Prop where
  jj : Sub J J'
  jh : Sub J' H'
  kept : ∀ a o, ¬ M.fp a → Nt M o → H a = some o → H' a = some o
  inv : M.inv H'
  frn : ∀ a o, Nt M o → H a = some o → J a = none → J' a = none
  aln : ∀ a o, Nt M o → H a = some o → ∃ o', Nt M o' ∧ H' a = some o'
  tn : (∀ a ps, J a ≠ some (.tbl ps)) → ∀ a ps, J' a ≠ some (.tbl ps)
section
variable {M : Md} {J H J1 H1 J2 H2 : Hp} {p : Addr} {o : HO}
theorem Tr.keep (t : Tr M J H J1 H1) (a : Addr) (o : HO) (nf : ¬ M.fp a) (e : H a = some o) (nt : Nt M o := by first | assumption | (intro h; cases h; done) | (intro _ _ z; cases z; done)) : H1 a = some o := t.kept a o nf nt e
theorem Tr.frp (t : Tr Md.pure J H J1 H1) (a : Addr) (e : H a ≠ none) (n : J a = none) : J1 a = none := by
  cases q : H a with
  | none => exact absurd q e
  | some u => exact t.frn a u (fun h => nomatch h) q n
theorem Wf.tr (w : Wf M J H) : Tr M J H J H := ⟨.refl _, w.jh, fun _ _ _ _ h => h, w.inv, fun _ _ _ _ h => h, fun _ o b h => ⟨o, b, h⟩, fun h => h⟩
theorem Tr.wf (t : Tr M J H J1 H1) (w : Wf M J H) : Wf M J1 H1 := ⟨t.jh, t.inv, fun a h => by
  obtain ⟨o, e, b⟩ := M.there H w.inv a h
  exact t.frn a o b e (w.jn a h), fun b => t.tn (w.nt b)⟩
theorem Tr.trans (t : Tr M J H J1 H1) (u : Tr M J1 H1 J2 H2) : Tr M J H J2 H2 :=
  ⟨t.jj.trans u.jj, u.jh, fun a x n b h => u.kept a x n b (t.kept a x n b h), u.inv, fun a x b h n => by
    obtain ⟨y, c, e⟩ := t.aln a x b h
    exact u.frn a y c e (t.frn a x b h n), fun a x b h => by
    obtain ⟨y, c, e⟩ := t.aln a x b h
    exact u.aln a y c e, fun h => u.tn (t.tn h)⟩
theorem al_ne {a p : Addr} {G : Hp} (q : G a ≠ none) (h : G p = none) : a ≠ p := fun e => q (by rw [e]; exact h)
theorem so_ne {a p : Addr} {G : Hp} {x : HO} (q : G a = some x) (h : G p = none) : a ≠ p := fun e => by rw [e, h] at q; cases q
theorem Wf.new (w : Wf M J H) (h : H p = none) (nt : ∀ ps, o ≠ .tbl ps := by first | assumption | (intro _ z; cases z; done)) : Tr M J H (upd J p o) (upd H p o) := by
  have hj : J p = none := w.jh.back h
  refine ⟨.new hj, w.jh.both, fun a x _ _ e => Sub.new h a x e, M.loc _ _ (fun a q => upd_ne (al_ne (w.out a q).2 h)) (fun a x e _ => Sub.new h a x e) w.inv, fun a x _ e n => ?_, fun a x b e => ⟨x, b, Sub.new h a x e⟩, fun g a ps e => ?_⟩
  · rw [upd_ne (so_ne e h)]; exact n
  · by_cases z : a = p
    · rw [z, upd_same] at e
      exact nt ps (Option.some.inj e)
    · rw [upd_ne z] at e
      exact g a ps e
/-- a new object that is not known for good -/
theorem Wf.cell (w : Wf M J H) (h : H p = none) : Tr M J H J (upd H p o) :=
  ⟨.refl _, w.jh.trans (.new h), fun a x _ _ e => Sub.new h a x e, M.loc _ _ (fun a q => upd_ne (al_ne (w.out a q).2 h)) (fun a x e _ => Sub.new h a x e) w.inv, fun _ _ _ _ n => n, fun a x b e => ⟨x, b, Sub.new h a x e⟩, fun g => g⟩
/-- a call that changes nothing -/
theorem Wf.lift (w : Wf M J H) (t : Tr Md.pure J H J1 H1) : Tr M J H J1 H1 := by
  have all : ∀ a x, H a = some x → H1 a = some x := fun a x e => t.keep a x (fun z => z) e
  refine ⟨t.jj, t.jh, fun a x _ _ e => all a x e, M.loc _ _ (fun a q => ?_) (fun a x e _ => all a x e) w.inv, fun a x _ e n => t.frn a x (fun h => nomatch h) e n, fun a x b e => ⟨x, b, all a x e⟩, t.tn⟩
  cases e : H a with
  | none => exact absurd e (w.out a q).2
  | some x => exact all a x e
theorem Wf.mono (w : Wf M J H) : Wf Md.pure J H := ⟨w.jh, trivial, fun _ h => h.elim, fun h => nomatch h⟩
end

/-! ### expressions -/
section
variable (K : PySem.W.Frag) (M : Md)
def EvP (te : TE) (σ : L2.St) (J H : Hp) (P : PyData → Prop) : Prop :=
  ∀ J1 H1, Wf M J1 H1 → Tr M J H J1 H1 → ∀ Q : VK, (∀ v d J2 H2, Wf M J2 H2 → Tr M J1 H1 J2 H2 → P d → Da K J2 v d → Q v H2) → te σ H1 Q
abbrev EvD (te : TE) (σ : L2.St) (J H : Hp) (d : PyData) : Prop := EvP K M te σ J H (· = d)
def EvT (tt : TT) (σ : L2.St) (J H : Hp) (P : Bool → Prop) : Prop :=
  ∀ J1 H1, Wf M J1 H1 → Tr M J H J1 H1 → ∀ Q : Bool → Hp → Prop, (∀ b J2 H2, Wf M J2 H2 → Tr M J1 H1 J2 H2 → P b → Q b H2) → tt σ H1 Q
def EvA (ta : TA) (σ : L2.St) (J H : Hp) (P : List PyData → Prop) : Prop :=
  ∀ J1 H1, Wf M J1 H1 → Tr M J H J1 H1 → ∀ Q : List V → Hp → Prop, (∀ vs ds J2 H2, Wf M J2 H2 → Tr M J1 H1 J2 H2 → P ds → Das K J2 vs ds → Q vs H2) → ta σ H1 Q
def EvO (_K : PySem.W.Frag) (M : Md) (to : TO) (σ : L2.St) (J H : Hp) (P : Option Int → Prop) : Prop :=
  ∀ J1 H1, Wf M J1 H1 → Tr M J H J1 H1 → ∀ Q : Option Int → Hp → Prop, (∀ o J2 H2, Wf M J2 H2 → Tr M J1 H1 J2 H2 → P o → Q o H2) → to σ H1 Q
/-- an operation of two data, of one, of a row of them -/
def OpD (r : R2) (dx dy : PyData) (P : PyData → Prop) : Prop :=
  ∀ x y J H, Wf M J H → Da K J x dx → Da K J y dy → ∀ Q : VK, (∀ v d J2 H2, Wf M J2 H2 → Tr M J H J2 H2 → P d → Da K J2 v d → Q v H2) → r x y H Q
def UnD (r : V → Hp → VK → Prop) (dx : PyData) (P : PyData → Prop) : Prop :=
  ∀ x J H, Wf M J H → Da K J x dx → ∀ Q : VK, (∀ v d J2 H2, Wf M J2 H2 → Tr M J H J2 H2 → P d → Da K J2 v d → Q v H2) → r x H Q
def CbD (r : List V → Hp → VK → Prop) (ds : List PyData) (P : PyData → Prop) : Prop :=
  ∀ vs J H, Wf M J H → Das K J vs ds → ∀ Q : VK, (∀ v d J2 H2, Wf M J2 H2 → Tr M J H J2 H2 → P d → Da K J2 v d → Q v H2) → r vs H Q
def SlD (r : V → Option Int → Option Int → Hp → VK → Prop) (dx : PyData) (lo hi : Option Int) (P : PyData → Prop) : Prop :=
  ∀ x J H, Wf M J H → Da K J x dx → ∀ Q : VK, (∀ v d J2 H2, Wf M J2 H2 → Tr M J H J2 H2 → P d → Da K J2 v d → Q v H2) → r x lo hi H Q
/-- a call of an own def -/
def SpD (sp : Sp) (ds : List PyData) (P : PyData → Prop) (E : XK) : Prop :=
  ∀ vs J H, Wf M J H → Das K J vs ds → ∀ Q : VK, (∀ v d J2 H2, Wf M J2 H2 → Tr M J H J2 H2 → P d → Da K J2 v d → Q v H2) → sp vs H Q E
end
section
variable {K : PySem.W.Frag} {M : Md} {σ : L2.St} {J H J' H' : Hp} {ta tb te tc : TE} {t u : TT} {r : R2} {P P' Px Py Pz : PyData → Prop} {d dx dy : PyData} {v : V} {i j : Int}
theorem EvP.mono (h : EvP K M te σ J H P) (k : ∀ d, P d → P' d) : EvP K M te σ J H P' := fun J1 H1 w t Q q => h J1 H1 w t Q fun v d J2 H2 w2 t2 p a => q v d J2 H2 w2 t2 (k d p) a
theorem EvP.later (h : EvP K M te σ J H P) (t : Tr M J H J' H') : EvP K M te σ J' H' P := fun J1 H1 w t1 Q q => h J1 H1 w (t.trans t1) Q q
theorem EvT.mono {P P' : Bool → Prop} {t : TT} (h : EvT M t σ J H P) (k : ∀ d, P d → P' d) : EvT M t σ J H P' := fun J1 H1 w t Q q => h J1 H1 w t Q fun b J2 H2 w2 t2 p => q b J2 H2 w2 t2 (k b p)
theorem EvT.later {P : Bool → Prop} {t : TT} (h : EvT M t σ J H P) (tr : Tr M J H J' H') : EvT M t σ J' H' P := fun J1 H1 w t1 Q q => h J1 H1 w (tr.trans t1) Q q
theorem EvA.mono {P P' : List PyData → Prop} {t : TA} (h : EvA K M t σ J H P) (k : ∀ d, P d → P' d) : EvA K M t σ J H P' := fun J1 H1 w t Q q => h J1 H1 w t Q fun v d J2 H2 w2 t2 p a => q v d J2 H2 w2 t2 (k d p) a
theorem EvA.later {P : List PyData → Prop} {t : TA} (h : EvA K M t σ J H P) (tr : Tr M J H J' H') : EvA K M t σ J' H' P := fun J1 H1 w t1 Q q => h J1 H1 w (tr.trans t1) Q q
theorem ev_var {i : Nat} (hs : σ[i]? = some (some v)) (h : Da K J v d) : EvD K M (tVar i) σ J H d := fun J1 H1 w t Q q => ⟨v, hs, q v d J1 H1 w w.tr rfl (t.jj.da h)⟩
theorem ev_c (h : ∀ J, Da K J v d) : EvD K M (tC v) σ J H d := fun J1 H1 w t Q q => q v d J1 H1 w w.tr rfl (h _)
theorem ev_int : EvD K M (tC (.int i)) σ J H (.int i) := ev_c fun _ => .int i
theorem ev_bl {b : Bool} : EvD K M (tC (.bl b)) σ J H (.bool b) := ev_c fun _ => .bl b
theorem ev_str {x : Str} : EvD K M (tC (.str x)) σ J H (.str x) := ev_c fun _ => .str x
theorem ev_non : EvD K M (tC .non) σ J H .none := ev_c fun _ => .non
theorem ev_op (ha : EvP K M ta σ J H Px) (hb : EvP K M tb σ J H Py) (ho : ∀ dx dy, Px dx → Py dy → OpD K M r dx dy P) : EvP K M (tOp r ta tb) σ J H P := fun J1 H1 w t Q q =>
  ha J1 H1 w t _ fun x dx J2 H2 w2 t2 px ax => hb J2 H2 w2 (t.trans t2) _ fun y dy J3 H3 w3 t3 py ay =>
    ho dx dy px py x y J3 H3 w3 (t3.jj.da ax) ay Q fun v d J4 H4 w4 t4 p a => q v d J4 H4 w4 ((t2.trans t3).trans t4) p a
theorem ev_opD (ha : EvD K M ta σ J H dx) (hb : EvD K M tb σ J H dy) (ho : OpD K M r dx dy P) : EvP K M (tOp r ta tb) σ J H P := ev_op ha hb fun _ _ e1 e2 => by rw [e1, e2]; exact ho
theorem ev_un {r : V → Hp → VK → Prop} (ha : EvP K M ta σ J H Px) (ho : ∀ dx, Px dx → UnD K M r dx P) : EvP K M (tUn r ta) σ J H P := fun J1 H1 w t Q q =>
  ha J1 H1 w t _ fun x dx J2 H2 w2 t2 px ax => ho dx px x J2 H2 w2 ax Q fun v d J4 H4 w4 t4 p a => q v d J4 H4 w4 (t2.trans t4) p a
/-- an operation that hands back a plain value and leaves the heap -/
theorem od_flat (h : ∀ x y J H, Sub J H → Da K J x dx → Da K J y dy → ∀ Q : VK, Q v H → r x y H Q) (hv : ∀ J, Da K J v d) : OpD K M r dx dy (· = d) := fun x y J H w ax ay Q q => h x y J H w.jh ax ay Q (q v d J H w w.tr rfl (hv J))
theorem od_I0 {g : Int → Int → V} {d : PyData} (hv : ∀ J, Da K J (g i j) d) : OpD K M (rI0 g) (.int i) (.int j) (· = d) :=
  od_flat (v := g i j) (fun x y J H _ ax ay Q q => ⟨i, j, da_int ax, da_int ay, q⟩) hv
theorem od_I {C : Int → Int → Prop} {g : Int → Int → V} {d : PyData} (hc : C i j) (hv : ∀ J, Da K J (g i j) d) : OpD K M (rI C g) (.int i) (.int j) (· = d) :=
  od_flat (v := g i j) (fun x y J H _ ax ay Q q => ⟨i, j, da_int ax, da_int ay, hc, q⟩) hv
theorem od_add : OpD K M (rI0 fun i j => .int (i + j)) (.int i) (.int j) (· = .int (i + j)) := od_I0 fun _ => .int _
theorem od_sub : OpD K M (rI0 fun i j => .int (i - j)) (.int i) (.int j) (· = .int (i - j)) := od_I0 fun _ => .int _
theorem od_mul (h : CMulW i j) : OpD K M (rI CMulW fun i j => .int (i * j)) (.int i) (.int j) (· = .int (i * j)) := od_I h fun _ => .int _
theorem od_mod (h : 0 < j) : OpD K M (rI (fun _ j => 0 < j) fun i j => .int (i % j)) (.int i) (.int j) (· = .int (i % j)) := od_I h fun _ => .int _
theorem od_fdiv (h : CDivW i j) : OpD K M (rI CDivW fun i j => .int (i / j)) (.int i) (.int j) (· = .int (i / j)) := od_I h fun _ => .int _
theorem od_pow (h : CPow i j) : OpD K M (rI CPow fun i j => .int (i ^ j.toNat)) (.int i) (.int j) (· = .int (i ^ j.toNat)) := od_I h fun _ => .int _
theorem od_lt : OpD K M (rI0 fun i j => .bl (decide (i < j))) (.int i) (.int j) (· = .bool (decide (i < j))) := od_I0 fun _ => .bl _
theorem od_le : OpD K M (rI0 fun i j => .bl (decide (i ≤ j))) (.int i) (.int j) (· = .bool (decide (i ≤ j))) := od_I0 fun _ => .bl _
theorem od_gt : OpD K M (rI0 fun i j => .bl (decide (j < i))) (.int i) (.int j) (· = .bool (decide (j < i))) := od_I0 fun _ => .bl _
theorem od_ge : OpD K M (rI0 fun i j => .bl (decide (j ≤ i))) (.int i) (.int j) (· = .bool (decide (j ≤ i))) := od_I0 fun _ => .bl _
theorem od_eq (sx : SeqAt.shaped dx = true) (sy : SeqAt.shaped dy = true) : OpD K M (rEqD K) dx dy (· = .bool (PyData.eqv dx dy)) :=
  od_flat (v := .bl (PyData.eqv dx dy)) (fun x y J H s ax ay Q q => ⟨dx, dy, ax.dp s, ay.dp s, sx, sy, q⟩) fun _ => .bl _
theorem od_ne (sx : SeqAt.shaped dx = true) (sy : SeqAt.shaped dy = true) : OpD K M (rNeD K) dx dy (· = .bool (!PyData.eqv dx dy)) :=
  od_flat (v := .bl (!PyData.eqv dx dy)) (fun x y J H s ax ay Q q => ⟨dx, dy, ax.dp s, ay.dp s, sx, sy, q⟩) fun _ => .bl _
theorem od_inL {ds : List PyData} (sx : SeqAt.shaped dx = true) (sy : SeqAt.shaped (.list ds) = true) : OpD K M (rInD K) dx (.list ds) (· = .bool (ds.any fun z => PyData.eqv z dx)) :=
  od_flat (v := .bl _) (fun x y J H s ax ay Q q => ⟨dx, ds, ax.dp s, ay.dp s, sx, sy, q⟩) fun _ => .bl _
theorem od_niL {ds : List PyData} (sx : SeqAt.shaped dx = true) (sy : SeqAt.shaped (.list ds) = true) : OpD K M (rNotInD K) dx (.list ds) (· = .bool (!ds.any fun z => PyData.eqv z dx)) :=
  od_flat (v := .bl _) (fun x y J H s ax ay Q q => ⟨dx, ds, ax.dp s, ay.dp s, sx, sy, q⟩) fun _ => .bl _
/-- x is None, x is not None -/
def rIsNo : R2 := fun x y H Q => y = .non ∧ Q (.bl (decide (x = .non))) H
def rNotNo : R2 := fun x y H Q => y = .non ∧ Q (.bl (!decide (x = .non))) H
def isNo : PyData → Bool
  | .none => true
  | _ => false
theorem da_isNo {x : V} (h : Da K J x d) : decide (x = .non) = isNo d := by cases h <;> rfl
theorem od_isN : OpD K M rIsNo dx .none (· = .bool (isNo dx)) := fun x y J H w ax ay Q q => ⟨da_non ay, q _ _ J H w w.tr (by rw [← da_isNo ax]) (.bl _)⟩
theorem od_notN : OpD K M rNotNo dx .none (· = .bool (!isNo dx)) := fun x y J H w ax ay Q q => ⟨da_non ay, q _ _ J H w w.tr (by rw [← da_isNo ax]) (.bl _)⟩

/-! places and parts -/
theorem ix_eq {α : Type} {xs : List α} {n : Int} {x : α} (h : atI xs n = some x) : atI xs n = some x := h
theorem das_atI {xs : List V} {ds : List PyData} (h : Das K J xs ds) {n : Int} (e : atI ds n = some d) : ∃ v, atI xs n = some v ∧ Da K J v d := by
  unfold atI at e ⊢
  rw [das_len h]
  cases q : ixN ds.length n with
  | none => rw [q] at e; cases e
  | some k =>
    rw [q] at e
    obtain ⟨v, hv, a⟩ := das_get h e
    exact ⟨v, hv, a⟩
theorem od_ixL {ds : List PyData} (e : atI ds i = some d) : OpD K M (rIx K) (.list ds) (.int i) (· = d) := fun x y J H w ax ay Q q => by
  obtain ⟨a, xs, rfl, hl, hd⟩ := da_lst ax
  obtain ⟨v, hv, av⟩ := das_atI hd e
  exact .inl ⟨a, xs, i, v, rfl, da_int ay, .of (w.jh _ _ hl), hv, q v d J H w w.tr rfl av⟩
theorem od_ixT {ds : List PyData} (e : atI ds i = some d) : OpD K M (rIx K) (.tuple ds) (.int i) (· = d) := fun x y J H w ax ay Q q => by
  obtain ⟨a, xs, rfl, hl, hd⟩ := da_tup ax
  obtain ⟨v, hv, av⟩ := das_atI hd e
  exact .inr (.inl ⟨a, xs, i, v, rfl, da_int ay, w.jh.t hl, hv, q v d J H w w.tr rfl av⟩)
/-- what a slice of ds has -/
def cut (ds : List PyData) (lo hi : Option Int) : List PyData := (ds.drop (HT.sIx ds.length 0 lo)).take (HT.sIx ds.length ds.length hi - HT.sIx ds.length 0 lo)
theorem das_cut {xs : List V} {ds : List PyData} (h : Das K J xs ds) (lo hi : Option Int) : Das K J (cutV xs lo hi) (cut ds lo hi) := by
  unfold cutV cut
  rw [das_len h]
  exact das_take _ (das_drop _ h)
theorem sd_list {ds : List PyData} {lo hi : Option Int} : SlD K M (rSlL K) (.list ds) lo hi (· = .list (cut ds lo hi)) := fun x J H w ax Q q => by
  obtain ⟨a, xs, rfl, hl, hd⟩ := da_lst ax
  refine ⟨a, xs, rfl, .of (w.jh _ _ hl), fun p hp => ?_⟩
  have t := w.new (o := .lst (cutV xs lo hi)) hp
  exact q _ _ _ _ (t.wf w) t rfl (.lst upd_same (t.jj.das (das_cut hd lo hi)))
theorem sd_tup {ds : List PyData} {lo hi : Option Int} : SlD K M (rSlA K) (.tuple ds) lo hi (· = .tuple (cut ds lo hi)) := fun x J H w ax Q q => by
  obtain ⟨a, xs, rfl, hl, hd⟩ := da_tup ax
  have hlen := das_len hd
  refine ⟨a, xs, rfl, w.jh.t hl, fun e => ?_, fun _ p hp => ?_⟩
  · refine q _ _ J H w w.tr rfl ?_
    have ec : cut ds lo hi = ds := by
      unfold cut
      rw [hlen] at e
      rw [e.1, e.2]
      simp
    rw [ec]
    exact ax
  · have t := w.new (o := .tup (cutV xs lo hi)) hp
    exact q _ _ _ _ (t.wf w) t rfl (.tup (.of upd_same) (t.jj.das (das_cut hd lo hi)))
theorem eo_none : EvO K M tNoPart σ J H (· = none) := fun J1 H1 w t Q q => q none J1 H1 w w.tr rfl
theorem eo_some {p : Int → Prop} (h : EvP K M te σ J H fun d => ∃ i, d = .int i ∧ p i) : EvO K M (tPart te) σ J H fun o => ∃ i, o = some i ∧ p i := fun J1 H1 w t Q q =>
  h J1 H1 w t _ fun v d J2 H2 w2 t2 ⟨i, e, hp⟩ a => by
    subst e
    exact ⟨i, da_int a, q _ J2 H2 w2 t2 ⟨i, rfl, hp⟩⟩
theorem eo_at (h : EvD K M te σ J H (.int i)) : EvO K M (tPart te) σ J H (· = some i) := fun J1 H1 w t Q q =>
  h J1 H1 w t _ fun v d J2 H2 w2 t2 e a => by
    subst e
    exact ⟨i, da_int a, q _ J2 H2 w2 t2 rfl⟩
theorem ev_sl {r : V → Option Int → Option Int → Hp → VK → Prop} {tl th : TO} {Pl Ph : Option Int → Prop} (h : EvP K M te σ J H Px) (hl : EvO K M tl σ J H Pl) (hh : EvO K M th σ J H Ph)
    (ho : ∀ dx lo hi, Px dx → Pl lo → Ph hi → SlD K M r dx lo hi P) : EvP K M (tSl r te tl th) σ J H P := fun J1 H1 w t Q q =>
  h J1 H1 w t _ fun x dx J2 H2 w2 t2 px ax => hl J2 H2 w2 (t.trans t2) _ fun lo J3 H3 w3 t3 pl => hh J3 H3 w3 ((t.trans t2).trans t3) _ fun hi J4 H4 w4 t4 ph =>
    ho dx lo hi px pl ph x J4 H4 w4 ((t3.trans t4).jj.da ax) Q fun v d J5 H5 w5 t5 p a => q v d J5 H5 w5 (t2.trans ((t3.trans t4).trans t5)) p a
theorem ev_slD {r : V → Option Int → Option Int → Hp → VK → Prop} {tl th : TO} {lo hi : Option Int} (h : EvD K M te σ J H dx) (hl : EvO K M tl σ J H (· = lo)) (hh : EvO K M th σ J H (· = hi)) (ho : SlD K M r dx lo hi P) : EvP K M (tSl r te tl th) σ J H P :=
  ev_sl h hl hh fun _ _ _ e1 e2 e3 => by rw [e1, e2, e3]; exact ho
/-- x[::-1] -/
theorem ev_revL {ds : List PyData} (h : EvD K M te σ J H (.list ds)) : EvD K M (tRevL K te) σ J H (.list ds.reverse) := fun J1 H1 w t Q q =>
  h J1 H1 w t _ fun x d J2 H2 w2 t2 e ax => by
    subst e
    obtain ⟨a, xs, rfl, hl, hd⟩ := da_lst ax
    refine ⟨a, xs, rfl, .of (w2.jh _ _ hl), fun p hp => ?_⟩
    have t3 := w2.new (o := .lst xs.reverse) hp
    exact q _ _ _ _ (t3.wf w2) (t2.trans t3) rfl (.lst upd_same (t3.jj.das (das_rev hd)))

/-! several at once; displays; calls -/
theorem ea_nil : EvA K M tNil σ J H (· = []) := fun J1 H1 w t Q q => q [] [] J1 H1 w w.tr rfl .nil
theorem ea_cons {tr : TA} {Pr : List PyData → Prop} (h : EvP K M ta σ J H Px) (hr : EvA K M tr σ J H Pr) : EvA K M (tCons ta tr) σ J H fun ds => ∃ d r, ds = d :: r ∧ Px d ∧ Pr r := fun J1 H1 w t Q q =>
  h J1 H1 w t _ fun x dx J2 H2 w2 t2 px ax => hr J2 H2 w2 (t.trans t2) _ fun vs ds J3 H3 w3 t3 pr ar => q _ _ J3 H3 w3 (t2.trans t3) ⟨dx, ds, rfl, px, pr⟩ (.cons (t3.jj.da ax) ar)
theorem ea_consD {tr : TA} {ds : List PyData} (h : EvD K M ta σ J H d) (hr : EvA K M tr σ J H (· = ds)) : EvA K M (tCons ta tr) σ J H (· = d :: ds) := (ea_cons h hr).mono fun _ ⟨_, _, e, e1, e2⟩ => by rw [e, e1, e2]
theorem ev_tup {ta : TA} {Pa : List PyData → Prop} (h : EvA K M ta σ J H Pa) (hl : ∀ ds, Pa ds → ds.length ≤ 100000) : EvP K M (tTup ta) σ J H fun d => ∃ ds, d = .tuple ds ∧ Pa ds := fun J1 H1 w t Q q =>
  h J1 H1 w t _ fun vs ds J2 H2 w2 t2 p a => ⟨by rw [das_len a]; exact Nat.le_trans (hl ds p) (by decide), fun l hn => by
    have t3 := w2.new (o := .tup vs) hn
    exact q _ _ _ _ (t3.wf w2) (t2.trans t3) ⟨ds, rfl, p⟩ (.tup (.of upd_same) (t3.jj.das a))⟩
theorem ev_tupD {ta : TA} {ds : List PyData} (h : EvA K M ta σ J H (· = ds)) (hl : ds.length ≤ 100000 := by simp only [List.length_cons, List.length_nil]; decide) : EvD K M (tTup ta) σ J H (.tuple ds) :=
  (ev_tup h fun _ e => by rw [e]; exact hl).mono fun _ ⟨_, e, e1⟩ => by rw [e, e1]
theorem ev_lst {ta : TA} {Pa : List PyData → Prop} (h : EvA K M ta σ J H Pa) (hl : ∀ ds, Pa ds → ds.length ≤ 100000) : EvP K M (tLst ta) σ J H fun d => ∃ ds, d = .list ds ∧ Pa ds := fun J1 H1 w t Q q =>
  h J1 H1 w t _ fun vs ds J2 H2 w2 t2 p a => ⟨by rw [das_len a]; exact Nat.le_trans (hl ds p) (by decide), fun l hn => by
    have t3 := w2.new (o := .lst vs) hn
    exact q _ _ _ _ (t3.wf w2) (t2.trans t3) ⟨ds, rfl, p⟩ (.lst upd_same (t3.jj.das a))⟩
theorem ev_lstD {ta : TA} {ds : List PyData} (h : EvA K M ta σ J H (· = ds)) (hl : ds.length ≤ 100000 := by simp only [List.length_cons, List.length_nil]; decide) : EvD K M (tLst ta) σ J H (.list ds) :=
  (ev_lst h fun _ e => by rw [e]; exact hl).mono fun _ ⟨_, e, e1⟩ => by rw [e, e1]
theorem ev_cb {r : List V → Hp → VK → Prop} {ta : TA} {Pa : List PyData → Prop} (h : EvA K M ta σ J H Pa) (ho : ∀ ds, Pa ds → CbD K M r ds P) : EvP K M (tCB r ta) σ J H P := fun J1 H1 w t Q q =>
  h J1 H1 w t _ fun vs ds J2 H2 w2 t2 p a => ho ds p vs J2 H2 w2 a Q fun v d J3 H3 w3 t3 p3 a3 => q v d J3 H3 w3 (t2.trans t3) p3 a3
theorem ev_cbD {r : List V → Hp → VK → Prop} {ta : TA} {ds : List PyData} (h : EvA K M ta σ J H (· = ds)) (ho : CbD K M r ds P) : EvP K M (tCB r ta) σ J H P := ev_cb h fun _ e => by rw [e]; exact ho
theorem ev_call {sp : Sp} {E : XK} {ta : TA} {Pa : List PyData → Prop} (h : EvA K M ta σ J H Pa) (ho : ∀ ds, Pa ds → SpD K M sp ds P E) : EvP K M (tCall sp [] E ta) σ J H P := fun J1 H1 w t Q q =>
  h J1 H1 w t _ fun vs ds J2 H2 w2 t2 p a => by
    show sp (vs ++ []) H2 Q E
    rw [List.append_nil]
    exact ho ds p vs J2 H2 w2 a Q fun v d J3 H3 w3 t3 p3 a3 => q v d J3 H3 w3 (t2.trans t3) p3 a3
theorem ev_callD {sp : Sp} {E : XK} {ta : TA} {ds : List PyData} (h : EvA K M ta σ J H (· = ds)) (ho : SpD K M sp ds P E) : EvP K M (tCall sp [] E ta) σ J H P := ev_call h fun _ e => by rw [e]; exact ho
end
/-- what a pure def promises: ds its arguments -/
def spF (K : PySem.W.Frag) (pre : List PyData → Prop) (post : List PyData → PyData → Prop) : Sp := fun vs H Q _ => ∃ J ds, Sub J H ∧ Das K J vs ds ∧ pre ds ∧
  ∀ v d J' H', Tr Md.pure J H J' H' → post ds d → Da K J' v d → Q v H'
theorem spF_D {K : PySem.W.Frag} {M : Md} {pre : List PyData → Prop} {post : List PyData → PyData → Prop} {ds : List PyData} {E : XK} (h : pre ds) : SpD K M (spF K pre post) ds (post ds) E := fun vs J H w a Q q =>
  ⟨J, ds, w.jh, a, h, fun v d J' H' t p a' => q v d J' H' ((w.lift t).wf w) (w.lift t) p a'⟩
end DL

namespace DL
open PySem PySem.Spec
open PyProof.Rows L2
section
variable {K : PySem.W.Frag} {M : Md} {σ : L2.St} {J H J' H' J0 H0 J1 H1 : Hp} {ta tb te tc : TE} {t u : TT} {r r' : R2} {P P' Px Py Pz : PyData → Prop} {d dx dy : PyData} {v : V} {i j : Int} {p : Addr} {o : HO}

theorem Wf.nofp (w : Wf M J H) (h : H p = none) : ¬ M.fp p := fun q => (w.out p q).2 h
/-- a cell of one's own is written, or comes to be known for good -/
theorem Tr.put {xs zs : List V} (w : Wf M J H) (t : Tr M J H J1 H1) (e1 : H1 p = some (.lst xs)) (hp : H p = none) (jp : J1 p = none) : Tr M J H J1 (upd H1 p (.lst zs)) := by
  have st : ∀ a x, H1 a = some x → (∀ ys, x ≠ .lst ys) → upd H1 p (.lst zs) a = some x := fun a x e ne => by
    by_cases h : a = p
    · rw [h, e1] at e; exact absurd (Option.some.inj e).symm (ne _)
    · rw [upd_ne h]; exact e
  refine ⟨t.jj, fun a x e => ?_, fun a x n b e => ?_, M.loc _ _ (fun a q => upd_ne fun e => w.nofp hp (by rw [← e]; exact q)) st t.inv, t.frn, fun a q b e => ?_, t.tn⟩
  · rw [upd_ne (ne_of_none e jp)]; exact t.jh a x e
  · rw [upd_ne (ne_of_none e hp)]; exact t.kept a x n b e
  · by_cases h : a = p
    · rw [h, hp] at e; cases e
    · rw [upd_ne h]; exact t.aln a q b e
theorem Tr.ice (t : Tr M J H J1 H1) (hp : H p = none) (jp : J1 p = none) (e : H1 p = some o) (nt : ∀ ps, o ≠ .tbl ps := by first | assumption | (intro _ z; cases z; done)) : Tr M J H (upd J1 p o) H1 := by
  refine ⟨t.jj.trans (.new jp), fun a x q => ?_, t.kept, t.inv, fun a x b q n => ?_, t.aln, fun g a ps q => ?_⟩
  · by_cases h : a = p
    · rw [h, upd_same] at q; cases q; rw [h]; exact e
    · rw [upd_ne h] at q; exact t.jh a x q
  · rw [upd_ne (so_ne q hp)]; exact t.frn a x b q n
  · by_cases h : a = p
    · rw [h, upd_same] at q; exact nt ps (Option.some.inj q)
    · rw [upd_ne h] at q; exact t.tn g a ps q
/-- what was learnt may be forgotten -/
theorem Tr.thaw (t : Tr M J0 H0 J H) (u : Tr M J' H J1 H1) (s : Sub J J1) : Tr M J0 H0 J H1 :=
  ⟨t.jj, s.trans u.jh, fun a x n b e => u.kept a x n b (t.kept a x n b e), u.inv, t.frn, fun a x b e => by
    obtain ⟨y, c, e⟩ := t.aln a x b e
    exact u.aln a y c e, t.tn⟩
theorem Tr.fresh (t : Tr M J H J1 H1) (a : Addr) (o : HO) (h : H a = some o) (n : J a = none) (nt : Nt M o := by first | assumption | (intro h; cases h; done) | (intro _ _ z; cases z; done)) : J1 a = none := t.frn a o nt h n
theorem Tr.cellj (t : Tr M J H J1 H1) (h : H p = some o) (n : J p = none) (nt : Nt M o := by first | assumption | (intro h; cases h; done) | (intro _ _ z; cases z; done)) : J1 p = none := t.frn p o nt h n

/-! ### tests -/
theorem et_test {Pb : Bool → Prop} (h : EvP K M te σ J H fun d => ∃ b, d = .bool b ∧ Pb b) : EvT M (tTest te) σ J H Pb := fun J1 H1 w t Q q =>
  h J1 H1 w t _ fun v d J2 H2 w2 t2 ⟨b, e, pb⟩ a => by
    subst e
    exact ⟨b, da_bl a, q b J2 H2 w2 t2 pb⟩
theorem et_testD {b : Bool} (h : EvD K M te σ J H (.bool b)) : EvT M (tTest te) σ J H (· = b) := et_test (h.mono fun _ e => ⟨b, e, rfl⟩)
theorem et_B {Pb : Bool → Prop} (h : EvP K M te σ J H fun d => ∃ b, d = .bool b ∧ Pb b) : EvT M (tB te) σ J H Pb := fun J1 H1 w t Q q =>
  h J1 H1 w t _ fun v d J2 H2 w2 t2 ⟨b, e, pb⟩ a => by
    subst e
    exact ⟨b, da_bl a, q b J2 H2 w2 t2 pb⟩
theorem et_BD {b : Bool} (h : EvD K M te σ J H (.bool b)) : EvT M (tB te) σ J H (· = b) := et_B (h.mono fun _ e => ⟨b, e, rfl⟩)
theorem et_and {Pa Pb : Bool → Prop} {t u : TT} (h : EvT M t σ J H Pa) (g : Pa true → EvT M u σ J H Pb) : EvT M (tAnd t u) σ J H fun c => (c = false ∧ Pa false) ∨ (Pa true ∧ Pb c) := fun J1 H1 w tr Q q =>
  h J1 H1 w tr _ fun b J2 H2 w2 t2 pa => by
    cases b with
    | true => exact g pa J2 H2 w2 (tr.trans t2) Q fun c J3 H3 w3 t3 pb => q c J3 H3 w3 (t2.trans t3) (.inr ⟨pa, pb⟩)
    | false => exact q false J2 H2 w2 t2 (.inl ⟨rfl, pa⟩)
theorem et_or {Pa Pb : Bool → Prop} {t u : TT} (h : EvT M t σ J H Pa) (g : Pa false → EvT M u σ J H Pb) : EvT M (tOr t u) σ J H fun c => (c = true ∧ Pa true) ∨ (Pa false ∧ Pb c) := fun J1 H1 w tr Q q =>
  h J1 H1 w tr _ fun b J2 H2 w2 t2 pa => by
    cases b with
    | false => exact g pa J2 H2 w2 (tr.trans t2) Q fun c J3 H3 w3 t3 pb => q c J3 H3 w3 (t2.trans t3) (.inr ⟨pa, pb⟩)
    | true => exact q true J2 H2 w2 t2 (.inl ⟨rfl, pa⟩)
theorem et_andD {a b : Bool} {t u : TT} (h : EvT M t σ J H (· = a)) (g : a = true → EvT M u σ J H (· = b)) : EvT M (tAnd t u) σ J H (· = (a && b)) :=
  (et_and h fun e => g e.symm).mono fun c hc => by
    rcases hc with ⟨e, ea⟩ | ⟨ea, e⟩
    · rw [e, ← ea]; rfl
    · rw [e, ← ea]; rfl
theorem et_orD {a b : Bool} {t u : TT} (h : EvT M t σ J H (· = a)) (g : a = false → EvT M u σ J H (· = b)) : EvT M (tOr t u) σ J H (· = (a || b)) :=
  (et_or h fun e => g e.symm).mono fun c hc => by
    rcases hc with ⟨e, ea⟩ | ⟨ea, e⟩
    · rw [e, ← ea]; rfl
    · rw [e, ← ea]; rfl
theorem et_not {Pa : Bool → Prop} {t : TT} (h : EvT M t σ J H Pa) : EvT M (tNot t) σ J H fun c => Pa (!c) := fun J1 H1 w tr Q q =>
  h J1 H1 w tr _ fun b J2 H2 w2 t2 pa => q (!b) J2 H2 w2 t2 (by show Pa (!!b); rw [Bool.not_not]; exact pa)
theorem et_notD {a : Bool} {t : TT} (h : EvT M t σ J H (· = a)) : EvT M (tNot t) σ J H (· = !a) := (et_not h).mono fun c e => by rw [← e, Bool.not_not]
theorem et_yes : EvT M tYes σ J H (· = true) := fun J1 H1 w tr Q q => q true J1 H1 w w.tr rfl
/-- truth of a datum -/
def truth : PyData → Bool
  | .none => false
  | .bool b => b
  | .int i => i != 0
  | .str x => (x.length : Int) != 0
  | .list ds => !ds.isEmpty
  | .tuple ds => !ds.isEmpty
  | .dict _ => false
def tTruth (K : PySem.W.Frag) (ta : TE) : TT := fun σ H Q => ta σ H fun x H' => ∃ k, TruV K x H' k ∧ Q k H'
theorem das_empty {xs : List V} {ds : List PyData} (h : Das K J xs ds) : xs.isEmpty = ds.isEmpty := by cases h <;> rfl
theorem et_truth (h : EvP K M te σ J H Px) (hl : ∀ x, Px (.str x) → x.length ≤ sizeLine) : EvT M (tTruth K te) σ J H fun b => ∃ d, Px d ∧ b = truth d := fun J1 H1 w t Q q =>
  h J1 H1 w t _ fun v d J2 H2 w2 t2 px a => by
    refine ⟨truth d, ?_, q _ J2 H2 w2 t2 ⟨d, px, rfl⟩⟩
    cases a with
    | non => rfl
    | bl b => rfl
    | int i => rfl
    | str x => exact ⟨hl x px, rfl⟩
    | lst a b => exact .inl ⟨_, .of (w2.jh _ _ a), by rw [das_empty b]; rfl⟩
    | tup a b => exact .inr (.inl ⟨_, w2.jh.t a, by rw [das_empty b]; rfl⟩)

/-! ### and, or, not as values; a if t else b; chains -/
theorem ev_andV {a : Bool} {b : PyData} (h : EvD K M ta σ J H (.bool a)) (g : a = true → EvD K M tb σ J H b) : EvD K M (tAndV ta tb) σ J H (if a then b else .bool false) := fun J1 H1 w t Q q =>
  h J1 H1 w t _ fun v d J2 H2 w2 t2 e x => by
    subst e
    refine ⟨a, da_bl x, ?_⟩
    cases a with
    | true => exact g rfl J2 H2 w2 (t.trans t2) Q fun v d J3 H3 w3 t3 e3 a3 => q v d J3 H3 w3 (t2.trans t3) e3 a3
    | false => exact q _ _ J2 H2 w2 t2 rfl (.bl false)
theorem ev_orV {a : Bool} {b : PyData} (h : EvD K M ta σ J H (.bool a)) (g : a = false → EvD K M tb σ J H b) : EvD K M (tOrV ta tb) σ J H (if a then .bool true else b) := fun J1 H1 w t Q q =>
  h J1 H1 w t _ fun v d J2 H2 w2 t2 e x => by
    subst e
    refine ⟨a, da_bl x, ?_⟩
    cases a with
    | false => exact g rfl J2 H2 w2 (t.trans t2) Q fun v d J3 H3 w3 t3 e3 a3 => q v d J3 H3 w3 (t2.trans t3) e3 a3
    | true => exact q _ _ J2 H2 w2 t2 rfl (.bl true)
theorem ev_notV {a : Bool} (h : EvD K M ta σ J H (.bool a)) : EvD K M (tNotV ta) σ J H (.bool !a) := fun J1 H1 w t Q q =>
  h J1 H1 w t _ fun v d J2 H2 w2 t2 e x => by
    subst e
    exact ⟨a, da_bl x, q _ _ J2 H2 w2 t2 rfl (.bl _)⟩
theorem ev_if {Pb : Bool → Prop} {t : TT} (h : EvT M t σ J H Pb) (h1 : Pb true → EvP K M ta σ J H P) (h2 : Pb false → EvP K M tb σ J H P) : EvP K M (tIf t ta tb) σ J H P := fun J1 H1 w tr Q q =>
  h J1 H1 w tr _ fun b J2 H2 w2 t2 pb => by
    cases b with
    | true => exact h1 pb J2 H2 w2 (tr.trans t2) Q fun v d J3 H3 w3 t3 e3 a3 => q v d J3 H3 w3 (t2.trans t3) e3 a3
    | false => exact h2 pb J2 H2 w2 (tr.trans t2) Q fun v d J3 H3 w3 t3 e3 a3 => q v d J3 H3 w3 (t2.trans t3) e3 a3
theorem ev_chain {a b : Bool} {dz : PyData} (h1 : EvD K M ta σ J H dx) (h2 : EvD K M tb σ J H dy) (h3 : EvD K M tc σ J H dz) (ho : OpD K M r dx dy (· = .bool a)) (ho' : OpD K M r' dy dz (· = .bool b)) : EvD K M (tChain r r' ta tb tc) σ J H (.bool (a && b)) := fun J1 H1 w t Q q =>
  h1 J1 H1 w t _ fun x dx' J2 H2 w2 t2 ex ax => h2 J2 H2 w2 (t.trans t2) _ fun y dy' J3 H3 w3 t3 ey ay => by
    subst ex
    subst ey
    refine ho x y J3 H3 w3 (t3.jj.da ax) ay _ fun z dz' J4 H4 w4 t4 ez az => ?_
    subst ez
    refine ⟨a, da_bl az, ?_⟩
    cases a with
    | true =>
      refine h3 J4 H4 w4 ((t.trans t2).trans (t3.trans t4)) _ fun z2 dz2 J5 H5 w5 t5 e5 a5 => ?_
      subst e5
      exact ho' y z2 J5 H5 w5 ((t4.trans t5).jj.da ay) a5 Q fun v d J6 H6 w6 t6 e6 a6 => q v d J6 H6 w6 ((t2.trans t3).trans ((t4.trans t5).trans t6)) e6 a6
    | false => exact q _ _ J4 H4 w4 ((t2.trans t3).trans t4) rfl (.bl false)

/-! ### built-in calls -/
theorem das_one {vs : List V} {d : PyData} (h : Das K J vs [d]) : ∃ v, vs = [v] ∧ Da K J v d := by
  cases h with
  | cons a b => cases b; exact ⟨_, rfl, a⟩
theorem cd_lenL {ds : List PyData} : CbD K M (rLen K) [.list ds] (· = .int ds.length) := fun vs J H w a Q q => by
  obtain ⟨v, rfl, av⟩ := das_one a
  obtain ⟨p, xs, rfl, hl, hd⟩ := da_lst av
  exact ⟨_, ds.length, rfl, .inl ⟨xs, .of (w.jh _ _ hl), (das_len hd).symm⟩, q _ _ J H w w.tr rfl (.int _)⟩
theorem cd_lenT {ds : List PyData} : CbD K M (rLen K) [.tuple ds] (· = .int ds.length) := fun vs J H w a Q q => by
  obtain ⟨v, rfl, av⟩ := das_one a
  obtain ⟨p, xs, rfl, hl, hd⟩ := da_tup av
  exact ⟨_, ds.length, rfl, .inr ⟨xs, w.jh.t hl, (das_len hd).symm⟩, q _ _ J H w w.tr rfl (.int _)⟩
theorem cd_lenS {x : Str} (hz : x.length ≤ sizeLine) : CbD K M (rLen K) [.str x] (· = .int x.length) := fun vs J H w a Q q => by
  obtain ⟨v, rfl, av⟩ := das_one a
  exact ⟨_, x.length, rfl, by rw [da_str av]; exact ⟨hz, rfl⟩, q _ _ J H w w.tr rfl (.int _)⟩
def rTupOf (K : PySem.W.Frag) : List V → Hp → VK → Prop := fun xs H Q => ∃ p ys, xs = [.ref p] ∧ ((SqL K H p ys ∧ ∀ l, H l = none → Q (.ref l) (upd H l (.tup ys))) ∨ (SqT K H p ys ∧ Q (.ref p) H))
theorem cd_tupL {ds : List PyData} : CbD K M (rTupOf K) [.list ds] (· = .tuple ds) := fun vs J H w a Q q => by
  obtain ⟨v, rfl, av⟩ := das_one a
  obtain ⟨p, xs, rfl, hl, hd⟩ := da_lst av
  refine ⟨p, xs, rfl, .inl ⟨.of (w.jh _ _ hl), fun l hn => ?_⟩⟩
  have t := w.new (o := .tup xs) hn
  exact q _ _ _ _ (t.wf w) t rfl (.tup (.of upd_same) (t.jj.das hd))
theorem cd_tupT {ds : List PyData} : CbD K M (rTupOf K) [.tuple ds] (· = .tuple ds) := fun vs J H w a Q q => by
  obtain ⟨v, rfl, av⟩ := das_one a
  obtain ⟨p, xs, rfl, hl, hd⟩ := da_tup av
  exact ⟨p, xs, rfl, .inr ⟨w.jh.t hl, q _ _ J H w w.tr rfl av⟩⟩
def rLstOf (K : PySem.W.Frag) : List V → Hp → VK → Prop := fun xs H Q => ∃ p ys, xs = [.ref p] ∧ (SqL K H p ys ∨ SqT K H p ys) ∧ ∀ l, H l = none → Q (.ref l) (upd H l (.lst ys))
theorem cd_lstL {ds : List PyData} : CbD K M (rLstOf K) [.list ds] (· = .list ds) := fun vs J H w a Q q => by
  obtain ⟨v, rfl, av⟩ := das_one a
  obtain ⟨p, xs, rfl, hl, hd⟩ := da_lst av
  refine ⟨p, xs, rfl, .inl (.of (w.jh _ _ hl)), fun l hn => ?_⟩
  have t := w.new (o := .lst xs) hn
  exact q _ _ _ _ (t.wf w) t rfl (.lst upd_same (t.jj.das hd))
theorem cd_lstT {ds : List PyData} : CbD K M (rLstOf K) [.tuple ds] (· = .list ds) := fun vs J H w a Q q => by
  obtain ⟨v, rfl, av⟩ := das_one a
  obtain ⟨p, xs, rfl, hl, hd⟩ := da_tup av
  refine ⟨p, xs, rfl, .inr (w.jh.t hl), fun l hn => ?_⟩
  have t := w.new (o := .lst xs) hn
  exact q _ _ _ _ (t.wf w) t rfl (.lst upd_same (t.jj.das hd))
def rAbs : List V → Hp → VK → Prop := fun xs H Q => ∃ i, xs = [.int i] ∧ Q (.int (if i < 0 then -i else i)) H
theorem cd_abs : CbD K M rAbs [.int i] (· = .int (if i < 0 then -i else i)) := fun vs J H w a Q q => by
  obtain ⟨v, rfl, av⟩ := das_one a
  exact ⟨i, by rw [da_int av], q _ _ J H w w.tr rfl (.int _)⟩
def rInt1 : List V → Hp → VK → Prop := fun xs H Q => (∃ i, xs = [.int i] ∧ Q (.int i) H) ∨ ∃ k, xs = [.bl k] ∧ Q (.int (if k then 1 else 0)) H
theorem cd_int : CbD K M rInt1 [.int i] (· = .int i) := fun vs J H w a Q q => by
  obtain ⟨v, rfl, av⟩ := das_one a
  exact .inl ⟨i, by rw [da_int av], q _ _ J H w w.tr rfl (.int _)⟩
/-- repr -/
def rRepr (K : PySem.W.Frag) : List V → Hp → VK → Prop := fun xs H Q => ∃ x d, xs = [x] ∧ Dp K H x d ∧ d.showable = true ∧ d.shown.length ≤ sizeLine ∧ d.depth ≤ 60 ∧ Q (.str d.shown) H
theorem cd_repr (h1 : d.showable = true) (h2 : d.shown.length ≤ sizeLine) (h3 : d.depth ≤ 60) : CbD K M (rRepr K) [d] (· = .str d.shown) := fun vs J H w a Q q => by
  obtain ⟨v, rfl, av⟩ := das_one a
  exact ⟨v, d, rfl, av.dp w.jh, h1, h2, h3, q _ _ J H w w.tr rfl (.str _)⟩
/-- + of numbers, of tuples, of lists, of texts -/
def rPlus (K : PySem.W.Frag) : R2 := fun x y H Q => (rI0 fun i j => .int (i + j)) x y H Q ∨ rCatA K x y H Q ∨ rCat x y H Q ∨ ∃ i j, x = .str i ∧ y = .str j ∧ i.length + j.length ≤ sizeLine ∧ Q (.str (i ++ j)) H
theorem od_plus : OpD K M (rPlus K) (.int i) (.int j) (· = .int (i + j)) := fun x y J H w ax ay Q q => .inl (od_add x y J H w ax ay Q q)
theorem od_plusT {ds es : List PyData} (h : ds.length + es.length ≤ sizeLine) : OpD K M (rPlus K) (.tuple ds) (.tuple es) (· = .tuple (ds ++ es)) := fun x y J H w ax ay Q q => by
  obtain ⟨a, xs, rfl, hl, hd⟩ := da_tup ax
  obtain ⟨b, ys, rfl, hl2, hd2⟩ := da_tup ay
  refine .inr (.inl ⟨a, b, xs, ys, rfl, rfl, w.jh.t hl, w.jh.t hl2, by rw [das_len hd, das_len hd2]; exact h, fun e => ?_, fun _ e => ?_, fun _ _ l hn => ?_⟩)
  · subst e
    cases hd
    exact q _ _ J H w w.tr rfl ay
  · subst e
    cases hd2
    rw [List.append_nil] at q
    exact q _ _ J H w w.tr rfl ax
  · have t := w.new (o := .tup (xs ++ ys)) hn
    exact q _ _ _ _ (t.wf w) t rfl (.tup (.of upd_same) (t.jj.das (das_app hd hd2)))
theorem od_plusL {ds es : List PyData} (h : ds.length + es.length ≤ sizeLine) : OpD K M (rPlus K) (.list ds) (.list es) (· = .list (ds ++ es)) := fun x y J H w ax ay Q q => by
  obtain ⟨a, xs, rfl, hl, hd⟩ := da_lst ax
  obtain ⟨b, ys, rfl, hl2, hd2⟩ := da_lst ay
  refine .inr (.inr (.inl ⟨a, b, xs, ys, rfl, rfl, w.jh _ _ hl, w.jh _ _ hl2, by rw [das_len hd, das_len hd2]; exact h, fun l hn => ?_⟩))
  have t := w.new (o := .lst (xs ++ ys)) hn
  exact q _ _ _ _ (t.wf w) t rfl (.lst upd_same (t.jj.das (das_app hd hd2)))
theorem od_plusS {x y : Str} (h : x.length + y.length ≤ sizeLine) : OpD K M (rPlus K) (.str x) (.str y) (· = .str (x ++ y)) := fun a b J H w ax ay Q q =>
  .inr (.inr (.inr ⟨x, y, da_str ax, da_str ay, h, q _ _ J H w w.tr rfl (.str _)⟩))

/-! ### what a loop goes over -/
structure WalkD (K : PySem.W.Frag) (A : L2.It) (J : Hp) (ds : List PyData) : Prop where
  go : ∀ i H, i < ds.length → Sub J H → A.go i H
  stop : ∀ H, Sub J H → A.stop ds.length H
  yld : ∀ i H x H' d, ds[i]? = some d → Sub J H → A.yld i H x H' → (H' = H ∧ Da K J x d) ∨ ∃ T xs es, x = .ref T ∧ H T = none ∧ H' = upd H T (.tup xs) ∧ d = .tuple es ∧ Das K J xs es
def EvW (K : PySem.W.Frag) (M : Md) (wi : TI) (σ : L2.St) (J H : Hp) (P : List PyData → Prop) : Prop :=
  ∀ J1 H1, Wf M J1 H1 → Tr M J H J1 H1 → ∀ R : L2.It → Hp → Prop, (∀ A ds J2 H2, Wf M J2 H2 → Tr M J1 H1 J2 H2 → P ds → WalkD K A J2 ds → R A H2) → wi σ H1 R
theorem ew_list {Pl : List PyData → Prop} (h : EvP K M te σ J H fun d => ∃ ds, d = .list ds ∧ Pl ds) : EvW K M (iList K te) σ J H Pl := fun J1 H1 w t R q =>
  h J1 H1 w t _ fun v d J2 H2 w2 t2 ⟨ds, e, pl⟩ a => by
    subst e
    obtain ⟨p, xs, rfl, hl, hd⟩ := da_lst a
    refine ⟨p, rfl, ⟨xs, .of (w2.jh _ _ hl)⟩, q _ ds J2 H2 w2 t2 pl ⟨fun i G hi s => ?_, fun G s => ⟨xs, .of (s _ _ hl), by rw [das_len hd]; exact Nat.le_refl _⟩, fun i G x G' d hd' s y => ?_⟩⟩
    · have hi2 : i < xs.length := by rw [das_len hd]; exact hi
      exact ⟨xs, xs[i], .of (s _ _ hl), List.getElem?_eq_getElem hi2⟩
    · obtain ⟨e, y⟩ := y
      obtain ⟨d2, e2, a2⟩ := das_at hd (y xs (.of (s _ _ hl)))
      rw [hd'] at e2
      cases e2
      exact .inl ⟨e, a2⟩
theorem ew_listD {ds : List PyData} (h : EvD K M te σ J H (.list ds)) : EvW K M (iList K te) σ J H (· = ds) := ew_list (h.mono fun _ e => ⟨ds, e, rfl⟩)
theorem ew_tup {Pl : List PyData → Prop} (h : EvP K M te σ J H fun d => ∃ ds, d = .tuple ds ∧ Pl ds) : EvW K M (iTup K te) σ J H Pl := fun J1 H1 w t R q =>
  h J1 H1 w t _ fun v d J2 H2 w2 t2 ⟨ds, e, pl⟩ a => by
    subst e
    obtain ⟨p, xs, rfl, hl, hd⟩ := da_tup a
    refine ⟨p, rfl, ⟨xs, w2.jh.t hl⟩, q _ ds J2 H2 w2 t2 pl ⟨fun i G hi s => ?_, fun G s => ⟨xs, s.t hl, by rw [das_len hd]; exact Nat.le_refl _⟩, fun i G x G' d hd' s y => ?_⟩⟩
    · have hi2 : i < xs.length := by rw [das_len hd]; exact hi
      exact ⟨xs, xs[i], s.t hl, List.getElem?_eq_getElem hi2⟩
    · obtain ⟨e, y⟩ := y
      obtain ⟨d2, e2, a2⟩ := das_at hd (y xs (s.t hl))
      rw [hd'] at e2
      cases e2
      exact .inl ⟨e, a2⟩
theorem ew_tupD {ds : List PyData} (h : EvD K M te σ J H (.tuple ds)) : EvW K M (iTup K te) σ J H (· = ds) := ew_tup (h.mono fun _ e => ⟨ds, e, rfl⟩)
/-- 0, 1, .. -/
def upTo (n : Nat) : List PyData := (List.range n).map fun k => .int (k : Nat)
theorem upTo_at {n k : Nat} {d : PyData} (h : (upTo n)[k]? = some d) : d = .int k ∧ k < n := by
  unfold upTo at h
  rw [List.getElem?_map] at h
  by_cases hk : k < n
  · rw [List.getElem?_range hk] at h
    exact ⟨(Option.some.inj h).symm, hk⟩
  · rw [List.getElem?_eq_none (by simp; omega)] at h
    cases h
theorem upTo_len {n : Nat} : (upTo n).length = n := by unfold upTo; simp
theorem ew_range {Pn : Nat → Prop} (h : EvP K M te σ J H fun d => ∃ n : Nat, d = .int n ∧ n < 2 ^ 62 ∧ Pn n) : EvW K M (iRng1 (tCons te tNil)) σ J H fun ds => ∃ n : Nat, ds = upTo n ∧ Pn n := fun J1 H1 w t R q =>
  h J1 H1 w t _ fun v d J2 H2 w2 t2 ⟨n, e, hn, pn⟩ a => by
    subst e
    rw [da_int a]
    refine ⟨n, rfl, by omega, by omega, q _ (upTo n) J2 H2 w2 t2 ⟨n, rfl, pn⟩ ⟨fun i G hi s => ?_, fun G s => ?_, fun i G x G' d hd' s y => ?_⟩⟩
    · rw [upTo_len] at hi
      show i < (n : Int).toNat
      omega
    · show (n : Int).toNat ≤ _
      rw [upTo_len]; omega
    · obtain ⟨e1, e2⟩ := y
      obtain ⟨e3, _⟩ := upTo_at hd'
      rw [e3, e2]
      exact .inl ⟨e1, by rw [Int.zero_add]; exact .int _⟩
theorem ew_rangeD {n : Nat} (h : EvD K M te σ J H (.int n)) (hn : n < 2 ^ 62) : EvW K M (iRng1 (tCons te tNil)) σ J H (· = upTo n) := fun J1 H1 w t R q =>
  ew_range (Pn := (· = n)) (h.mono fun _ e => ⟨n, e, hn, rfl⟩) J1 H1 w t R fun A ds J2 H2 w2 t2 ⟨m, e, em⟩ wd => q A ds J2 H2 w2 t2 (by rw [e, em]) wd

/-! ### a comprehension -/
theorem ev_lc {k : Nat} {wi : TI} {tt : TT} {vs : List Nat} {Pw : List PyData → Prop} (I : List PyData → Nat → List PyData → Prop) (hw : EvW K M wi σ J H Pw) (hz : ∀ ds, Pw ds → ds.length < sizeLine) (h0 : ∀ ds, Pw ds → I ds 0 [])
    (hv : ∀ x, wipe ((wipe σ vs).set k (some x)) vs = wipe σ vs)
    (hs : ∀ ds i d acc x J1 H1, Pw ds → ds[i]? = some d → I ds i acc → Wf M J1 H1 → Tr M J H J1 H1 → Da K J1 x d → ∃ Pb : Bool → Prop, EvT M tt ((wipe σ vs).set k (some x)) J1 H1 Pb ∧
      (Pb false → I ds (i + 1) acc) ∧ (Pb true → EvP K M te ((wipe σ vs).set k (some x)) J1 H1 fun e => I ds (i + 1) (acc ++ [e])))
    (hd : ∀ ds acc, Pw ds → I ds ds.length acc → P (.list acc)) : EvP K M (tLc wi (gName k) tt te vs) σ J H P := fun J1 H1 w t Q q =>
  hw J1 H1 w t _ fun A ds J2 H2 w2 t2 pw wd => by
    intro D hD
    have nfD : ¬ M.fp D := w2.nofp hD
    refine ⟨fun i m G => m = ds.length - i ∧ i ≤ ds.length ∧ ∃ J' acc ys, Wf M J' G ∧ Tr M J2 H2 J' G ∧ G D = some (.lst ys) ∧ J' D = none ∧ Das K J' ys acc ∧ ys.length ≤ i ∧ I ds i acc,
      ⟨ds.length, rfl, Nat.zero_le _, J2, [], [], (w2.cell hD).wf w2, w2.cell hD, upd_same, w2.jh.back hD, .nil, Nat.le_refl _, h0 ds pw⟩, ?_⟩
    rintro i m G ⟨rfl, hi, J', acc, ys, w', t', hG, jD, ha, hl, hI⟩
    by_cases hlt : i < ds.length
    · refine .inr ⟨wd.go i G hlt (t'.jj.trans t'.jh), fun G' => ∃ J' acc ys, Wf M J' G' ∧ Tr M J2 H2 J' G' ∧ G' D = some (.lst ys) ∧ J' D = none ∧ Das K J' ys acc ∧ ys.length ≤ i + 1 ∧ I ds (i + 1) acc,
        fun G' h' => ⟨_, by omega, rfl, hlt, h'⟩, fun x G' y => ?_⟩
      have hdi : ds[i]? = some ds[i] := List.getElem?_eq_getElem hlt
      have key : ∀ J3 G3, Wf M J3 G3 → Tr M J2 H2 J3 G3 → G3 D = some (.lst ys) → J3 D = none → Das K J3 ys acc → Da K J3 x ds[i] →
          gName k x (wipe σ vs) G3 fun σ2 H2' => wipe σ2 vs = wipe σ vs ∧ tt σ2 H2' fun b H3 => if b = true then te σ2 H3 fun y H4 => ∃ acc, H4 D = some (.lst acc) ∧ acc.length < sizeLine ∧
            (∃ J' acc' ys, Wf M J' (upd H4 D (.lst (acc ++ [y]))) ∧ Tr M J2 H2 J' (upd H4 D (.lst (acc ++ [y]))) ∧ (upd H4 D (.lst (acc ++ [y]))) D = some (.lst ys) ∧ J' D = none ∧ Das K J' ys acc' ∧ ys.length ≤ i + 1 ∧ I ds (i + 1) acc')
            else ∃ J' acc ys, Wf M J' H3 ∧ Tr M J2 H2 J' H3 ∧ H3 D = some (.lst ys) ∧ J' D = none ∧ Das K J' ys acc ∧ ys.length ≤ i + 1 ∧ I ds (i + 1) acc := by
        intro J3 G3 w3 t3 hG3 jD3 ha3 ax
        obtain ⟨Pb, hb, hf, ht⟩ := hs ds i _ acc x J3 G3 pw hdi hI w3 ((t.trans t2).trans t3) ax
        refine ⟨hv x, hb J3 G3 w3 w3.tr _ fun b J4 G4 w4 t4 pb => ?_⟩
        cases b with
        | false => exact ⟨J4, acc, ys, w4, t3.trans t4, t4.keep D _ nfD hG3, t4.cellj hG3 jD3, t4.jj.das ha3, by omega, hf pb⟩
        | true =>
          refine ht pb J4 G4 w4 t4 _ fun y e J5 G5 w5 t5 pe ae => ?_
          have t35 := t4.trans t5
          have jD5 := t35.cellj hG3 jD3
          have zz := hz ds pw
          refine ⟨ys, t35.keep D _ nfD hG3, by omega, J5, acc ++ [e], ys ++ [y], ((t3.trans t35).put w2 (t35.keep D _ nfD hG3) hD jD5).wf w2, (t3.trans t35).put w2 (t35.keep D _ nfD hG3) hD jD5, upd_same, jD5, das_app (t35.jj.das ha3) (.cons ae .nil), ?_, pe⟩
          rw [List.length_append]; simp only [List.length_cons, List.length_nil]; omega
      rcases wd.yld i G x G' _ hdi (t'.jj.trans t'.jh) y with ⟨rfl, ax⟩ | ⟨T, xs, es, rfl, hT, rfl, ed, hes⟩
      · exact key J' G' w' t' hG jD ha (t'.jj.da ax)
      · have tn := w'.new (o := .tup xs) hT
        refine key _ _ (tn.wf w') (t'.trans tn) (tn.keep D _ nfD hG) (tn.cellj hG jD) (tn.jj.das ha) ?_
        rw [ed]
        exact .tup (.of upd_same) (tn.jj.das (t'.jj.das hes))
    · have e : i = ds.length := by omega
      subst e
      have ti := t'.ice hD jD hG
      exact .inl ⟨wd.stop G (t'.jj.trans t'.jh), q _ _ _ G (ti.wf w2) (t2.trans ti) (hd ds acc pw hI) (.lst upd_same ((Sub.new jD).das ha))⟩
/-- a plain one: each thing makes one, told by f -/
theorem ev_lcMap {k : Nat} {wi : TI} {vs : List Nat} {ds : List PyData} {f : PyData → PyData} (hw : EvW K M wi σ J H (· = ds)) (hz : ds.length < sizeLine)
    (hv : ∀ x, wipe ((wipe σ vs).set k (some x)) vs = wipe σ vs)
    (hs : ∀ d x J1 H1, d ∈ ds → Wf M J1 H1 → Tr M J H J1 H1 → Da K J1 x d → EvD K M te ((wipe σ vs).set k (some x)) J1 H1 (f d)) : EvD K M (tLc wi (gName k) tYes te vs) σ J H (.list (ds.map f)) := by
  refine ev_lc (fun ds' i acc => acc = (ds.take i).map f) hw (fun _ e => by rw [e]; exact hz) (fun _ _ => rfl) hv (fun ds' i d acc x J1 H1 e hdi hI w t a => ⟨(· = true), et_yes, (fun h => by cases h), fun _ => ?_⟩) fun ds' acc e h => ?_
  · subst e
    refine (hs d x J1 H1 (List.mem_of_getElem? hdi) w t a).mono fun e he => ?_
    rw [hI, he, List.take_add_one, hdi]
    simp
  · rw [h, e, List.take_length]
theorem ev_lcFilter {k : Nat} {wi : TI} {tt : TT} {vs : List Nat} {ds : List PyData} {f : PyData → PyData} {c : PyData → Bool} (hw : EvW K M wi σ J H (· = ds)) (hz : ds.length < sizeLine)
    (hv : ∀ x, wipe ((wipe σ vs).set k (some x)) vs = wipe σ vs)
    (hc : ∀ d x J1 H1, d ∈ ds → Wf M J1 H1 → Tr M J H J1 H1 → Da K J1 x d → EvT M tt ((wipe σ vs).set k (some x)) J1 H1 (· = c d))
    (hs : ∀ d x J1 H1, d ∈ ds → c d = true → Wf M J1 H1 → Tr M J H J1 H1 → Da K J1 x d → EvD K M te ((wipe σ vs).set k (some x)) J1 H1 (f d)) : EvD K M (tLc wi (gName k) tt te vs) σ J H (.list ((ds.filter c).map f)) := by
  refine ev_lc (fun ds' i acc => acc = ((ds.take i).filter c).map f) hw (fun _ e => by rw [e]; exact hz) (fun _ _ => rfl) hv (fun ds' i d acc x J1 H1 e hdi hI w t a => ⟨(· = c d), hc d x J1 H1 (by rw [← e]; exact List.mem_of_getElem? hdi) w t a, fun h => ?_, fun h => ?_⟩) fun ds' acc e h => ?_
  · subst e
    rw [hI, List.take_add_one, hdi]
    simp [← h]
  · subst e
    refine (hs d x J1 H1 (List.mem_of_getElem? hdi) h.symm w t a).mono fun e he => ?_
    rw [hI, he, List.take_add_one, hdi]
    simp [← h]
  · rw [h, e, List.take_length]
end
end DL

/-! Statements: (J0, H0) is where the def began, (J, H) where it stands. -/
namespace DL
open PySem PySem.Spec
open PyProof.Rows L2
section
variable {K : PySem.W.Frag} {M : Md} {σ : L2.St} {J H J' H' J0 H0 J1 H1 : Hp} {ta tb te tc : TE} {t u : TT} {ts tu tw : TS} {r r' : R2} {P P' Px Py Pz : PyData → Prop} {d dx dy : PyData} {v : V} {i j : Int} {p : Addr} {o : HO} {D : Ends} {tb' : TS}
theorem s_asg {k : Nat} (w : Wf M J H) (h : EvP K M te σ J H P) (q : ∀ v d J1 H1, Wf M J1 H1 → Tr M J H J1 H1 → P d → Da K J1 v d → D.nx (σ.set k (some v)) H1) : tAsg te (gName k) D σ H := h J H w w.tr _ q
theorem s_ret (w : Wf M J H) (h : EvP K M te σ J H P) (q : ∀ v d J1 H1, Wf M J1 H1 → Tr M J H J1 H1 → P d → Da K J1 v d → D.rt v H1) : tRet te D σ H := h J H w w.tr _ q
theorem s_drop (w : Wf M J H) (h : EvP K M te σ J H P) (q : ∀ J1 H1, Wf M J1 H1 → Tr M J H J1 H1 → D.nx σ H1) : tDrop te D σ H := h J H w w.tr _ fun v d J1 H1 w1 t1 _ _ => q J1 H1 w1 t1
theorem s_if {Pb : Bool → Prop} {c : TT} (w : Wf M J H) (h : EvT M c σ J H Pb) (q1 : Pb true → ∀ J1 H1, Wf M J1 H1 → Tr M J H J1 H1 → tu D σ H1) (q2 : Pb false → ∀ J1 H1, Wf M J1 H1 → Tr M J H J1 H1 → tw D σ H1) : tIfS c tu tw D σ H :=
  h J H w w.tr _ fun b J1 H1 w1 t1 pb => by
    cases b with
    | true => exact q1 pb J1 H1 w1 t1
    | false => exact q2 pb J1 H1 w1 t1
/-- a, b = e1, e2 -/
theorem s_par {k l : Nat} {ta : TA} {Pa : List PyData → Prop} (w : Wf M J H) (h : EvA K M ta σ J H Pa) (q : ∀ ds, Pa ds → ∃ d e, ds = [d, e] ∧ ∀ v u J1 H1, Wf M J1 H1 → Tr M J H J1 H1 → Da K J1 v d → Da K J1 u e → D.nx ((σ.set k (some v)).set l (some u)) H1) : tPar k l ta D σ H :=
  h J H w w.tr _ fun vs ds J1 H1 w1 t1 pa a => by
    obtain ⟨d, e, rfl, q⟩ := q ds pa
    cases a with
    | cons a b =>
      obtain ⟨u, rfl, b2⟩ := das_one b
      exact ⟨_, _, rfl, q _ _ J1 H1 w1 t1 a b2⟩
theorem s_par3 {k l m : Nat} {ta : TA} {Pa : List PyData → Prop} (w : Wf M J H) (h : EvA K M ta σ J H Pa)
    (q : ∀ ds, Pa ds → ∃ d e f, ds = [d, e, f] ∧ ∀ v u x J1 H1, Wf M J1 H1 → Tr M J H J1 H1 → Da K J1 v d → Da K J1 u e → Da K J1 x f → D.nx (((σ.set k (some v)).set l (some u)).set m (some x)) H1) : tPar3 k l m ta D σ H :=
  h J H w w.tr _ fun vs ds J1 H1 w1 t1 pa a => by
    obtain ⟨d, e, f, rfl, q⟩ := q ds pa
    cases a with
    | cons a b =>
      cases b with
      | cons b c =>
        obtain ⟨u, rfl, c2⟩ := das_one c
        exact ⟨_, _, _, rfl, q _ _ _ J1 H1 w1 t1 a b c2⟩
/-- a, b = e, e a tuple -/
theorem s_tup2 {k l : Nat} {ds : List PyData} (w : Wf M J H) (h : EvP K M te σ J H fun d => ∃ x y, d = .tuple [x, y] ∧ P x ∧ P' y) (q : ∀ v u x y J1 H1, Wf M J1 H1 → Tr M J H J1 H1 → P x → P' y → Da K J1 v x → Da K J1 u y → D.nx ((σ.set k (some v)).set l (some u)) H1) :
    tAsg te (gTup K 2 (gCons (gName k) (gCons (gName l) gNil))) D σ H := h J H w w.tr _ fun v d J1 H1 w1 t1 ⟨x, y, e, px, py⟩ a => by
  subst e
  obtain ⟨c, xs, rfl, ht, hd⟩ := da_tup a
  cases hd with
  | cons a1 b =>
    obtain ⟨u, rfl, b2⟩ := das_one b
    exact ⟨c, _, rfl, w1.jh.t ht, rfl, _, _, rfl, _, _, rfl, rfl, q _ _ x y J1 H1 w1 t1 px py a1 b2⟩
/-- xs = [], a list of one's own to be filled -/
theorem s_cell {k : Nat} (w : Wf M J H) (q : ∀ p, H p = none → Wf M J (upd H p (.lst [])) → Tr M J H J (upd H p (.lst [])) → D.nx (σ.set k (some (.ref p))) (upd H p (.lst []))) : tAsg (tLst tNil) (gName k) D σ H :=
  ⟨Nat.zero_le _, fun p hp => q p hp ((w.cell hp).wf w) (w.cell hp)⟩
/-- such a list, e behind it -/
theorem s_app {k : Nat} {ys : List V} (w0 : Wf M J0 H0) (t0 : Tr M J0 H0 J H) (hp : H0 p = none) (jp : J p = none) (hs : σ[k]? = some (some (.ref p))) (hH : H p = some (.lst ys)) (hl : ys.length < sizeLine) (h : EvP K M te σ J H P)
    (q : ∀ v d J1 H1, Wf M J1 H1 → Tr M J0 H0 J1 H1 → Sub J J1 → J1 p = none → H1 p = some (.lst (ys ++ [v])) → (∀ a o, a ≠ p → ¬ M.fp a → Nt M o → H a = some o → H1 a = some o) → (∀ a o, Nt M o → H a = some o → J a = none → J1 a = none) → P d → Da K J1 v d → D.nx σ H1) : tDrop (tBM K "list" rAppend (tVar k) (tCons te tNil)) D σ H := by
  have nf : ¬ M.fp p := w0.nofp hp
  refine ⟨.ref p, hs, .inl ⟨rfl, ys, .of hH⟩, h J H (t0.wf w0) (t0.wf w0).tr _ fun v d J1 H1 w1 t1 pd a => ?_⟩
  have jp1 := t1.cellj hH jp
  have t2 := (t0.trans t1).put (zs := ys ++ [v]) w0 (t1.keep p _ nf hH) hp jp1
  refine ⟨p, ys, v, rfl, rfl, t1.keep p _ nf hH, hl, q v d J1 _ (t2.wf w0) t2 t1.jj jp1 upd_same (fun a o ne n b e => ?_) t1.frn pd a⟩
  rw [upd_ne ne]; exact t1.kept a o n b e
/-- what is reached behind a turn -/
def Nxt (M : Md) (J0 H0 J2 : Hp) (I : L2.St → Hp → Hp → Prop) : L2.St → Hp → Prop := fun σ H => ∃ J, Wf M J H ∧ Tr M J0 H0 J H ∧ Sub J2 J ∧ I σ J H
theorem s_for {k : Nat} {wi : TI} {Pw : List PyData → Prop} (I : List PyData → Nat → L2.St → Hp → Hp → Prop) (w0 : Wf M J0 H0) (t0 : Tr M J0 H0 J H) (hw : EvW K M wi σ J H Pw)
    (h0 : ∀ ds J2 H2, Pw ds → Wf M J2 H2 → Tr M J H J2 H2 → I ds 0 σ J2 H2)
    (hn : ∀ ds i σ' J' H' T xs, I ds i σ' J' H' → H' T = none → I ds i σ' (upd J' T (.tup xs)) (upd H' T (.tup xs)))
    (hs : ∀ ds i d x σ' J2 J' H', Pw ds → ds[i]? = some d → Wf M J' H' → Tr M J0 H0 J' H' → Sub J J2 → Sub J2 J' → I ds i σ' J' H' → Da K J' x d →
      tb' { D with nx := Nxt M J0 H0 J2 (I ds (i + 1)), ct := Nxt M J0 H0 J2 (I ds (i + 1)), bk := D.nx } (σ'.set k (some x)) H')
    (hd : ∀ ds σ' J' H', Pw ds → Wf M J' H' → Tr M J0 H0 J' H' → Sub J J' → I ds ds.length σ' J' H' → D.nx σ' H') : tFor wi (gName k) tb' D σ H :=
  hw J H (t0.wf w0) (t0.wf w0).tr _ fun A ds J2 H2 w2 t2 pw wd => by
    refine ⟨fun i m σ' G => m = ds.length - i ∧ i ≤ ds.length ∧ Nxt M J0 H0 J2 (I ds i) σ' G, ⟨_, rfl, Nat.zero_le _, J2, w2, t0.trans t2, .refl _, h0 ds J2 H2 pw w2 t2⟩, ?_⟩
    rintro i m σ' G ⟨rfl, hi, J', w', t', s', hI⟩
    by_cases hlt : i < ds.length
    · refine .inr ⟨wd.go i G hlt (s'.trans w'.jh), Nxt M J0 H0 J2 (I ds (i + 1)), fun σ2 G' h' => ⟨_, by omega, rfl, hlt, h'⟩, fun x G' y => ?_⟩
      have hdi : ds[i]? = some ds[i] := List.getElem?_eq_getElem hlt
      rcases wd.yld i G x G' _ hdi (s'.trans w'.jh) y with ⟨rfl, ax⟩ | ⟨T, xs, es, rfl, hT, rfl, ed, hes⟩
      · exact hs ds i _ x σ' J2 J' G' pw hdi w' t' t2.jj s' hI (s'.da ax)
      · have tn := w'.new (o := .tup xs) hT
        refine hs ds i _ _ σ' J2 _ _ pw hdi (tn.wf w') (t'.trans tn) t2.jj (s'.trans tn.jj) (hn ds i σ' J' G T xs hI hT) ?_
        rw [ed]
        exact .tup (.of upd_same) (tn.jj.das (s'.das hes))
    · have e : i = ds.length := by omega
      subst e
      exact .inl ⟨wd.stop G (s'.trans w'.jh), hd ds σ' J' G pw w' t' (t2.jj.trans s') hI⟩
theorem s_for2 {k l : Nat} {wi : TI} {Pw : List PyData → Prop} (I : List PyData → Nat → L2.St → Hp → Hp → Prop) (w0 : Wf M J0 H0) (t0 : Tr M J0 H0 J H) (hw : EvW K M wi σ J H Pw)
    (hz : ∀ ds, Pw ds → ∀ d ∈ ds, ∃ x y, d = .tuple [x, y])
    (h0 : ∀ ds J2 H2, Pw ds → Wf M J2 H2 → Tr M J H J2 H2 → I ds 0 σ J2 H2)
    (hn : ∀ ds i σ' J' H' T xs, I ds i σ' J' H' → H' T = none → I ds i σ' (upd J' T (.tup xs)) (upd H' T (.tup xs)))
    (hs : ∀ ds i d e x y σ' J2 J' H', Pw ds → ds[i]? = some (.tuple [d, e]) → Wf M J' H' → Tr M J0 H0 J' H' → Sub J J2 → Sub J2 J' → I ds i σ' J' H' → Da K J' x d → Da K J' y e →
      tb' { D with nx := Nxt M J0 H0 J2 (I ds (i + 1)), ct := Nxt M J0 H0 J2 (I ds (i + 1)), bk := D.nx } ((σ'.set k (some x)).set l (some y)) H')
    (hd : ∀ ds σ' J' H', Pw ds → Wf M J' H' → Tr M J0 H0 J' H' → Sub J J' → I ds ds.length σ' J' H' → D.nx σ' H') : tFor wi (gTup K 2 (gCons (gName k) (gCons (gName l) gNil))) tb' D σ H :=
  hw J H (t0.wf w0) (t0.wf w0).tr _ fun A ds J2 H2 w2 t2 pw wd => by
    refine ⟨fun i m σ' G => m = ds.length - i ∧ i ≤ ds.length ∧ Nxt M J0 H0 J2 (I ds i) σ' G, ⟨_, rfl, Nat.zero_le _, J2, w2, t0.trans t2, .refl _, h0 ds J2 H2 pw w2 t2⟩, ?_⟩
    rintro i m σ' G ⟨rfl, hi, J', w', t', s', hI⟩
    by_cases hlt : i < ds.length
    · refine .inr ⟨wd.go i G hlt (s'.trans w'.jh), Nxt M J0 H0 J2 (I ds (i + 1)), fun σ2 G' h' => ⟨_, by omega, rfl, hlt, h'⟩, fun x G' y => ?_⟩
      have hdi : ds[i]? = some ds[i] := List.getElem?_eq_getElem hlt
      obtain ⟨dx, dy, edi⟩ := hz ds pw _ (List.getElem_mem hlt)
      rw [edi] at hdi
      have key : ∀ J3 G3, Wf M J3 G3 → Tr M J0 H0 J3 G3 → Sub J2 J3 → I ds i σ' J3 G3 → Da K J3 x (.tuple [dx, dy]) →
          gTup K 2 (gCons (gName k) (gCons (gName l) gNil)) x σ' G3 fun σ2 H2 => tb' { D with nx := Nxt M J0 H0 J2 (I ds (i + 1)), ct := Nxt M J0 H0 J2 (I ds (i + 1)), bk := D.nx } σ2 H2 := by
        intro J3 G3 w3 t3 s3 hI3 ax
        obtain ⟨c, ys, rfl, ht, hd⟩ := da_tup ax
        cases hd with
        | cons a1 b =>
          obtain ⟨u, rfl, b2⟩ := das_one b
          exact ⟨c, _, rfl, w3.jh.t ht, rfl, _, _, rfl, _, _, rfl, rfl, hs ds i dx dy _ _ σ' J2 J3 G3 pw hdi w3 t3 t2.jj s3 hI3 a1 b2⟩
      rcases wd.yld i G x G' _ hdi (s'.trans w'.jh) y with ⟨rfl, ax⟩ | ⟨T, xs, es, rfl, hT, rfl, ed, hes⟩
      · exact key J' G' w' t' s' hI (s'.da ax)
      · have tn := w'.new (o := .tup xs) hT
        refine key _ _ (tn.wf w') (t'.trans tn) (s'.trans tn.jj) (hn ds i σ' J' G T xs hI hT) ?_
        rw [ed]
        exact .tup (.of upd_same) (tn.jj.das (s'.das hes))
    · have e : i = ds.length := by omega
      subst e
      exact .inl ⟨wd.stop G (s'.trans w'.jh), hd ds σ' J' G pw w' t' (t2.jj.trans s') hI⟩
/-- while: I by a number that falls -/
theorem s_while {c : TT} (I : Nat → L2.St → Hp → Hp → Prop) (w0 : Wf M J0 H0) (t0 : Tr M J0 H0 J H) (h0 : ∃ m, I m σ J H)
    (hs : ∀ m σ' J' H', Wf M J' H' → Tr M J0 H0 J' H' → Sub J J' → I m σ' J' H' → ∃ Pb : Bool → Prop, EvT M c σ' J' H' Pb ∧
      (Pb true → ∀ J1 H1, Wf M J1 H1 → Tr M J' H' J1 H1 → tb' { D with nx := Nxt M J0 H0 J fun σ J H => ∃ m', m' < m ∧ I m' σ J H, ct := Nxt M J0 H0 J fun σ J H => ∃ m', m' < m ∧ I m' σ J H, bk := D.nx } σ' H1) ∧
      (Pb false → ∀ J1 H1, Wf M J1 H1 → Tr M J' H' J1 H1 → D.nx σ' H1)) : tWhile c tb' D σ H := by
  obtain ⟨m0, i0⟩ := h0
  refine ⟨fun m σ' G => Nxt M J0 H0 J (I m) σ' G, ⟨m0, J, t0.wf w0, t0, .refl _, i0⟩, ?_⟩
  rintro m σ' G ⟨J', w', t', s', hI⟩
  obtain ⟨Pb, hc, h1, h2⟩ := hs m σ' J' G w' t' s' hI
  refine hc J' G w' w'.tr _ fun b J1 H1 w1 t1 pb => ?_
  cases b with
  | true => exact ⟨_, fun σ2 G2 ⟨J2, a1, a2, a3, m', lt, a4⟩ => ⟨m', lt, J2, a1, a2, a3, a4⟩, h1 pb J1 H1 w1 t1⟩
  | false => exact h2 pb J1 H1 w1 t1
end
end DL

/-! Defs that tell texts of objects: they are called where no such text is being told. -/
namespace DL
open PySem PySem.Spec
open PyProof.Rows L2
mutual
theorem dp_nd {K : PySem.W.Frag} {H : Hp} : ∀ {d : PyData} {v : V}, Dp K H v d → d.hasDict = false
  | .none, _, _ => by simp only [PyData.hasDict]
  | .bool _, _, _ => by simp only [PyData.hasDict]
  | .int _, _, _ => by simp only [PyData.hasDict]
  | .str _, _, _ => by simp only [PyData.hasDict]
  | .list ds, _, h => by
    cases h with
    | lst _ b => simp only [PyData.hasDict]; exact dps_nd b
  | .tuple ds, _, h => by
    cases h with
    | tup _ b => simp only [PyData.hasDict]; exact dps_nd b
  | .dict _, _, h => by cases h
theorem dps_nd {K : PySem.W.Frag} {H : Hp} : ∀ {ds : List PyData} {vs : List V}, DpAll K H vs ds → PyData.hasDictAll ds = false
  | [], _, _ => by simp only [PyData.hasDictAll]
  | _ :: _, _, h => by
    cases h with
    | cons a b => simp only [PyData.hasDictAll]; rw [dp_nd a, dps_nd b]; rfl
end
structure FnG (P : Program) (w : World) (K : PySem.W.Frag) (mg : Str → Option Value) (base : Heap) (CX : CXT) (k : Nat) (f : Addr) (fd : FuncData) (ps : List Str) (sp : Sp) : Prop where
  siz : ∀ vs H Q E, sp vs H Q E → vs.length = ps.length
  go : ∀ (A : Around) (out : List Env) (s : Shared) (H : Hp) (ar : Args) (us : List Value) (vs : List V) (Q : VK) (E : XK), A.guards = some [] → Room k A → Env0 P w K mg base A out s H → BindsTo s fd ar (ps.zip us) → Vals vs us → sp vs H Q E → codeAny (model P w) A (.call (.ref f) ar) (CR CX out P w H s Q E) s
section
variable {P : Program} {w : World} {K : PySem.W.Frag} {mg : Str → Option Value} {base : Heap} {CX : CXT} {k : Nat} {f : Addr} {fd : FuncData} {ps : List Str} {sp : Sp}
theorem FnG.of (F : FnOk P w K mg base CX k f fd ps sp) : FnG P w K mg base CX k f fd ps sp := ⟨F.len, fun A out s H ar us vs Q E _ => F.run A out s H ar us vs Q E⟩
theorem FnG.more {j : Nat} (F : FnG P w K mg base CX j f fd ps sp) (h : j ≤ k) : FnG P w K mg base CX k f fd ps sp := ⟨F.siz, fun A out s H ar us vs Q E g hr => F.go A out s H ar us vs Q E g (hr.mono h)⟩
/-- a def by its body -/
theorem fn_g {x qual : Str} {params : Arguments} {body : List Stmt} {scope : Scope} {dvs : List V} {kws : List (Str × V)} {N : List Str} (F : FunD K x qual params body scope dvs kws f fd) (S : FnScope N ps scope) (len : ∀ vs H Q E, sp vs H Q E → vs.length = ps.length)
    (hb : ∀ (cdv : Value) (A : Around) (out : List Env) (s : Shared) (H : Hp) (vs : List V) (Q : VK) (E : XK), A.guards = some [] → Room k (A.deeper (envOfC qual scope s.heap.objs.size f cdv)) → sp vs H Q E →
      ∃ t, PSs (cxOf CX P w K mg base N qual scope f cdv A out s H E) body t ∧ t { nx := fun _ H' => Q .non H', rt := Q } (start N vs) H) : FnG P w K mg base CX (k + 1) f fd ps sp := by
  obtain ⟨oc, od, dV, kV, doc, pm, an, cdv, ct, osl, e, lk, hcd, _, _⟩ := F.ex
  subst e
  refine ⟨len, fun A out s H ar us vs Q E g hr e0 bd r hsp => ?_⟩
  have KX : K.In s.heap := e0.mod.kin.keeps fun b o q => (e0.bs b o q).1
  have nl : s.heap.NoLimit := e0.mod.nolimit.keeps fun b o q => (e0.bs b o q).1
  have nk : ∀ y ∈ ps.zip us, scope.names.lookup y.1 = some .local ∨ (scope.names.lookup y.1 = some .cell ∧ ((cellsFrom (s.heap.objs.size + 1) scope.names []).lookup y.1).isSome = true) := by
    rintro ⟨n, v⟩ hy
    exact (S.par n (List.of_mem_zip hy).1).imp id fun q => ⟨q, PySem.W.cellsFrom_some _ _ _ (.inl q)⟩
  refine codeAny_call_function hr.depth (KX _ _ lk) rfl S.co S.gen rfl (PySem.W.codeRec_of KX hcd) (bd _ _ _ _ (wpAny_newFunctionEnv_cells S.kind nk fun env he s1 x => ?_))
  cases he
  refine ⟨nl.keeps x.toInCall.keep, codeAny_func ?_⟩
  obtain ⟨t, ht, hq⟩ := hb cdv A out s H vs Q E g (hr.deeper _) hsp
  refine wpAny_mono (ht.run [] s1 (start N vs) H _ (inv_start S hr.hd e0 (len _ _ _ _ hsp) r x) hq) (fun fl s' hs => ?_) fun _ _ z => z
  cases fl with
  | ret u => obtain ⟨v, σ', H', I, rv, q⟩ := hs; exact ⟨v, H', I.os, I.bare, I.base, I.hok, rv, q⟩
  | next => obtain ⟨σ', H', I, q⟩ := hs; exact ⟨V.non, H', I.os, I.bare, I.base, I.hok, rfl, q⟩
  | brk => exact hs.elim fun _ h => h.elim fun _ h => h.2.elim
  | cont => exact hs.elim fun _ h => h.elim fun _ h => h.2.elim
end
section
variable {X : Cx} {CX : CXT} {k : Nat} {f : Addr} {fd : FuncData} {ps ks : List Str} {sp : Sp} {E : XK} {x : Str} {p pos : Pos} {e : Expr} {es : List Expr} {t tk : TA}
theorem go_g {pins : List (Addr × Obj)} {σ : L2.St} {H : Hp} {s : Shared} {Q : VK} {ar : Args} {us : List Value} {vs : List V} (F : FnG X.prog X.w X.K X.mg X.base CX k f fd ps sp) (hg : X.A.guards = some []) (hr : Room k X.A) (hx : Passes CX X E) (I : Inv X pins σ H s)
    (bd : BindsTo s fd ar (ps.zip us)) (r : Vals vs us) (h : sp vs H Q E) : wpAny (model X.prog X.w) X.A (call (.ref f) ar.pos ar.kw) (EP X pins σ Q) X.xe s :=
  wpAny_call (codeAny_mono (F.go X.A X.stack s H ar us vs Q E hg hr I.env0 bd r h) fun c s' hq => by
    cases c with
    | error er => exact hx pins σ H s er s' I hq
    | ok fl => cases fl <;> first | exact I.after hq | exact hq.elim)
theorem pe_callG {dvs : List V} {ds : List Value} (F : FnG X.prog X.w X.K X.mg X.base CX k f fd ps sp) (hA : X.A.guards = some []) (hr : Room k X.A) (hg : Gl X x) (hm : X.mg x = some (.ref f)) (hk : PySem.W.keepIn X.K (.ref f) = true) (hb : Binds X.K fd ps ds) (hd : Vals dvs ds)
    (hx : Passes CX X E) (ha : PA X (e :: es) t) (hdb : (x == ("__debug__" : Str)) = false := by decide) (he : starEach (e :: es) X.env = (false, eval e X.env) :: starEach es X.env := by rfl)
    (hpl : (backTo pos (starEach es X.env)).any (·.1) = false := by rfl) : PE X (.Call (.Name x p) (e :: es) [] pos) (tCall sp dvs E t) := by
  refine ⟨fun pins s σ H Q I h => wpAny_Call_Name_kw (ld_glob I hg hm ?_ hdb)⟩
  have args := thn (ha.run pos pins s σ H _ I h) fun ws sh ⟨zs, G, J, rz, told⟩ => (⟨J.kIn, go_g (ar := ⟨ws, []⟩) F hA hr hx J (hb sh ws J.kIn ((rz.append hd).length.symm.trans (F.siz _ _ _ _ told))) (rz.append hd) told⟩ : X.K.In sh.heap ∧ _)
  exact PySem.W.callWith_K (h₀ := X.base) I.ok.mod.kin hk args he hpl
theorem pe_callKG {g : List Value → List Value → List Value} {gV : List V → List V → List V} {kws : List Keyword} (F : FnG X.prog X.w X.K X.mg X.base CX k f fd ps sp) (hA : X.A.guards = some []) (hr : Room k X.A) (hg : Gl X x) (hm : X.mg x = some (.ref f))
    (hk : PySem.W.keepIn X.K (.ref f) = true) (hb : KBinds X.K fd ps ks g gV) (hx : Passes CX X E) (ha : PA X (e :: es) t) (hkw : PK X kws tk) (hall : (backToKw pos (keywordEach kws X.env)).all (·.1.isSome) = true := by rfl)
    (hks : (backToKw pos (keywordEach kws X.env)).filterMap (·.1) = ks := by rfl) (hdb : (x == ("__debug__" : Str)) = false := by decide) (he : starEach (e :: es) X.env = (false, eval e X.env) :: starEach es X.env := by rfl)
    (hpl : ((backTo pos (starEach (e :: es) X.env)).any (·.1) || (backToKw pos (keywordEach kws X.env)).any (·.1.isNone)) = false := by rfl) : PE X (.Call (.Name x p) (e :: es) kws pos) (tCallK sp gV E t tk) := by
  refine ⟨fun pins s σ H Q I h => wpAny_Call_Name_kw (ld_glob I hg hm ?_ hdb)⟩
  refine PySem.W.callWith_KW (h₀ := X.base) I.ok.mod.kin hk hall (thn (ha.run pos pins s σ H _ I h) fun ps' sh ⟨vs, G, J, rv, named⟩ => thn (hkw.run pos pins sh σ G _ J named) fun ks' sh2 ⟨zs, G2, J2, rz, told⟩ => ⟨J2.kIn, ?_⟩) hpl he
  have both := hb.rel rv rz
  rw [hks]
  exact go_g (ar := ⟨ps', ks.zip ks'⟩) F hA hr hx J2 (hb.to sh2 ps' ks' J2.kIn (both.length.symm.trans (F.siz _ _ _ _ told))) both told
theorem cl_repr (hA : X.A.guards = some []) (hu : X.A.units + 64 < cLine) : CallR X (.builtin "repr") (rRepr X.K) := by
  rintro pins s σ H _ _ Q I r ⟨x, d, rfl, hd, h1, h2, h3, q⟩
  obtain ⟨u, eu, rx⟩ := vals1 r
  subst eu
  have hd' := hd
  cases hd with
  | non => cases rx; exact PySem.P.repr_of_none ⟨.str _, H, I.tok _, ⟨_, rfl⟩, by simpa only [PyData.shown] using q⟩
  | bl b => cases rx; exact PySem.P.repr_of_bool ⟨.str _, H, I.tok _, ⟨_, rfl⟩, by simpa only [PyData.shown] using q⟩
  | int i => obtain ⟨t, rfl⟩ := rx; exact PySem.P.repr_of_int (by simpa [PyData.showable] using h1) ⟨.str _, H, I.tok _, ⟨_, rfl⟩, by simpa only [PyData.shown] using q⟩
  | str y => obtain ⟨t, rfl⟩ := rx; exact PySem.P.repr_of_str ⟨.str _, H, I.tok _, ⟨_, rfl⟩, by simpa only [PyData.shown] using q⟩ (by simpa only [PyData.shown] using h2)
  | lst a b =>
    cases rx
    obtain ⟨as, rd⟩ := Dp.reads I _ _ _ hd' rfl
    exact repr_of_reads' rd h1 (fun z => by rw [dp_nd hd'] at z; cases z) hA (by omega) (fun _ _ e => e) (fun h' u tk kk => ⟨.str _, H, I.kept (t' := tk) kk, ⟨_, rfl⟩, q⟩) h2
  | tup a b =>
    cases rx
    obtain ⟨as, rd⟩ := Dp.reads I _ _ _ hd' rfl
    exact repr_of_reads' rd h1 (fun z => by rw [dp_nd hd'] at z; cases z) hA (by omega) (fun _ _ e => e) (fun h' u tk kk => ⟨.str _, H, I.kept (t' := tk) kk, ⟨_, rfl⟩, q⟩) h2
end
/-! ### the law itself -/
/-- what a law's call has to leave -/
def Well (s₀ : Shared) : Result → Shared → Prop := fun out s' => out = .ok (.ret (.bool true)) ∧ OldK s₀.heap s'.heap ∧ s'.os = s₀.os ∧ AllBare s'.gens
/-- the heap that tells of the script alone -/
def lone (a : Addr) (vs : List Value) (ns : List Int) : Hp := fun b => if b = a then some (.frz { cls := .type "list", data := .seq vs.toArray } (.lst (ns.map V.int))) else none
section
variable {P : Program} {w : World} {K : PySem.W.Frag} {mg mb : Str → Option Value} {CX : CXT} {k : Nat} {fa a : Addr} {fd : FuncData} {x : Str} {sp : Sp} {s₀ : Shared} {vs : List Value} {ns : List Int}
theorem law_on {H : Hp} (KX : K.In s₀.heap) (hns : s₀.heap.Ns mainGlobals mg) (hb : s₀.heap.Ns builtinsNs mb) (hbb : ∀ y : Str, y ≠ "__name__" → mb y = bootBuiltins y) (hlim : s₀.heap.NoLimit) (hg : s₀.gens = #[]) (ha : s₀.heap.get? a = some { cls := .type "list", data := .seq vs.toArray }) (hr : Room k callerA)
    (F : ∀ base : Heap, K.In base → base.Ns mainGlobals mg → FnG P w K mg base CX k fa fd [x] sp) (hbind : ∀ (s : Shared) (u : Value), BindsTo s fd ⟨[u], []⟩ [(x, u)]) (hsp : sp [.ref a] H (fun v _ => v = .bl true) fun _ _ _ => False) (hCX : ∀ e s', CX [] H s₀ (fun _ _ _ => False) e s' → False)
    (hO : Only H) (hok : HOk P w H s₀.heap) (alone : ∀ b, b ≠ a ∨ K.lookup a ≠ none → H b = none) : codeAny (model P w) callerA (.call (.ref fa) ⟨[.ref a], []⟩) (Well s₀) s₀ := by
  -- what lies in the part, and what is a dict, is hidden from nobody
  have kn : ∀ {b : Addr} {o : Obj}, K.lookup b = some o → H b = none := fun {b o} e => alone b (by
    by_cases z : b = a
    · exact .inr (by rw [← z, e]; exact nofun)
    · exact .inl z)
  have ns : ∀ {b : Addr} {m : Str → Option Value}, s₀.heap.Ns b m → (hidT s₀.heap H).Ns b m := by
    rintro b m ⟨o, es, ep, e, d, r⟩
    refine ⟨o, es, ep, hidT_get e (alone b (.inl ?_)), d, r⟩
    rintro rfl
    rw [ha] at e
    cases e
    cases d
  have KB : K.In (hidT s₀.heap H) := fun b o e => hidT_get (KX b o e) (kn e)
  have lim : (hidT s₀.heap H).NoLimit := hlim.elim fun mc z => ⟨mc, ns z.1, z.2⟩
  have env : Env0 P w K mg (hidT s₀.heap H) callerA [] s₀ H := ⟨rfl, ⟨KB, ns hns, ⟨mb, ns hb, hbb⟩, lim⟩, fun _ _ => of_hidT, Nat.le_of_eq (hidT_size _ _), trivial, nofun, hok, .of_eq hg⟩
  refine codeAny_mono ((F _ KB (ns hns)).go callerA [] s₀ H ⟨[.ref a], []⟩ [.ref a] [.ref a] _ _ rfl hr env (hbind s₀ (.ref a)) (.cons rfl .nil) hsp) ?_
  rintro (er | fl) s' told
  · exact (hCX er s' told).elim
  match fl, told with
  | .ret u, ⟨v, H', eo, gb, un, hok', rv, (ev : v = .bl true)⟩ =>
    subst ev
    obtain rfl : u = Value.bool true := rv
    refine ⟨rfl, OldK.of_keep fun b o e => ?_, eo, gb⟩
    match hO b with
    | .inl n => exact un.keep b o e n nofun nofun
    | .inr ⟨ob, xs, q⟩ =>
      obtain rfl : o = ob := Option.some.inj (e.symm.trans (hok b _ q).1)
      exact (hok' b _ (un.frzs b o _ q)).1
theorem law_g (KX : K.In s₀.heap) (hns : s₀.heap.Ns mainGlobals mg) (hb : s₀.heap.Ns builtinsNs mb) (hbb : ∀ y : Str, y ≠ "__name__" → mb y = bootBuiltins y) (hlim : s₀.heap.NoLimit) (hg : s₀.gens = #[]) (ha : s₀.heap.get? a = some { cls := .type "list", data := .seq vs.toArray })
    (hi : IntsAre vs ns) (hl : ns.length ≤ sizeLine) (hr : Room k callerA) (F : ∀ base : Heap, K.In base → base.Ns mainGlobals mg → FnG P w K mg base CX k fa fd [x] sp) (hbind : ∀ (s : Shared) (u : Value), BindsTo s fd ⟨[u], []⟩ [(x, u)])
    (hsp : ∀ H : Hp, Only H → SqL K H a (ns.map V.int) → sp [.ref a] H (fun v _ => v = .bl true) fun _ _ _ => False) (hCX : ∀ H e s', CX [] H s₀ (fun _ _ _ => False) e s' → False) : codeAny (model P w) callerA (.call (.ref fa) ⟨[.ref a], []⟩) (Well s₀) s₀ := by
  have rel := vals_ints hi
  cases inK : K.lookup a with
  | some o =>
    obtain rfl : o = { cls := .type "list", data := .seq vs.toArray } := Option.some.inj ((KX a o inK).symm.trans ha)
    have O : Only (fun _ => none) := fun _ => .inl rfl
    exact law_on (H := fun _ => none) KX hns hb hbb hlim hg ha hr F hbind (hsp _ O (.inr ⟨_, vs.toArray, _, inK, rfl, rfl, rfl, by rw [List.size_toArray, hi.length]; exact hl, by simpa using rel⟩)) (hCX _) O nofun fun _ _ => rfl
  | none =>
    have at_ : lone a vs ns a = some (.frz { cls := .type "list", data := .seq vs.toArray } (.lst (ns.map V.int))) := if_pos rfl
    have off : ∀ {b : Addr}, b ≠ a → lone a vs ns b = none := fun z => if_neg z
    have O : Only (lone a vs ns) := fun b => by
      by_cases z : b = a
      · rw [z]; exact .inr ⟨_, _, at_⟩
      · exact .inl (off z)
    refine law_on (H := lone a vs ns) KX hns hb hbb hlim hg ha hr F hbind (hsp _ O (.inl (.inr ⟨_, at_⟩))) (hCX _) O (fun b u z => ?_) fun b z => z.elim off fun y => (y inK).elim
    by_cases e : b = a
    · subst e
      obtain rfl := Option.some.inj (at_.symm.trans z)
      exact ⟨ha, Nat.le_trans (Nat.le_of_eq (List.length_map V.int)) hl, vs, _, rel, ha⟩
    · exact nomatch (off e).symm.trans z
end
theorem walk_g {l : PySem.W.OpenLaw} {n k : Nat} {q : Program} {loose : List Str} {XP : (Str → Option Value) → Heap → Prop} {YP : World → Heap → Prop} {d : DefRec} {CX : CXT} {x : Str} (hn : l.most = some n) (hn2 : n ≤ sizeLine) (hdf : d.params.defaults = []) (hr : Room k callerA)
    (F : ∀ (w : World) (mg : Str → Option Value) (fa : Addr) (h : Heap), YP w h → h.Ns mainGlobals mg → mg d.name = some (.ref fa) → ∃ (K : PySem.W.Frag) (fd : FuncData) (sp : Sp), K.In h ∧ (∀ (s : Shared) (u : Value), BindsTo s fd ⟨[u], []⟩ [(x, u)]) ∧
      (∀ (H : Hp) (a : Addr) (ns : List Int), ns.length ≤ n → Only H → SqL K H a (ns.map V.int) → sp [.ref a] H (fun v _ => v = .bl true) fun _ _ _ => False) ∧ ∀ base : Heap, K.In base → base.Ns mainGlobals mg → FnG l.prog w K mg base CX k fa fd [x] sp)
    (hCX : ∀ (H : Hp) (s : Shared) (e : Value) (s' : Shared), CX [] H s (fun _ _ _ => False) e s' → False) : PySem.W.WalkO q loose XP YP l.row.toRowW d [] (fun f vs => PySem.call f vs) :=
  Att.attach_call hn hdf fun w s₀ s₁ mg mb fa o pm cd doc a vs ns G Y ho hd hcd hmg hobj hints hlen hg => by
    have ⟨K, fd, sp, KX, hb, hsp, hF⟩ := F w mg fa s₁.heap Y G.T.g hmg
    exact law_g KX G.T.g G.T.b G.T.builtins G.T.nolimit hg hobj hints (Nat.le_trans hlen hn2) hr hF hb (fun H hO hS => hsp H a ns hlen hO hS) fun H e s' => hCX H s₁ e s'
end DL

/-! Rules under the names that the derivations use. -/
namespace DL
open PySem PySem.Spec
open PyProof.Rows L2
section
variable {X : Cx} {a b e : Expr} {es : List Expr} {ta tb te : TE} {p pos : Pos} {x : Str} {t : TA}
theorem cl_len : CallR X (.builtin "len") (rLen X.K) := call_len
theorem cl_tup : CallR X (.type "tuple") (rTupOf X.K) := call_tuple_of
theorem cl_lst : CallR X (.type "list") (rLstOf X.K) := call_list_of
theorem cl_abs : CallR X (.builtin "abs") rAbs := call_abs
theorem cl_int : CallR X (.type "int") rInt1 := call_int1
theorem or_op {g : Value → Value → Sem Value} {r r' : R2} (h : OpR X g r) (h' : OpR X g r') : OpR X g (fun x y H Q => r x y H Q ∨ r' x y H Q) := fun pins s σ H x y v u Q I rx ry z => by
  rcases z with z | z
  · exact h pins s σ H x y v u Q I rx ry z
  · exact h' pins s σ H x y v u Q I rx ry z
theorem op_plus : OpR X (binaryOp .Add) (rPlus X.K) := or_op op_add (or_op op_catA (or_op op_cat op_add_str))
theorem op_isNo : OpR X (compareOp .Is) rIsNo := op_isN
theorem op_notNo : OpR X (compareOp .IsNot) rNotNo := op_notN
theorem xGI {i : Int} (h : ∃ t, X.mg x = some (.int i t)) (hg : Gl X x := by rfl) (hd : (x == ("__debug__" : Str)) = false := by decide) : PE X (.Name x pos) (tC (.int i)) := by
  obtain ⟨t, h⟩ := h
  exact pe_glob hg h ⟨t, rfl⟩ hd
theorem xIx (ha : PE X a ta) (hb : PE X b tb) (hs : PlainIx b := by exact fun _ _ => rfl) : PE X (.Subscript a b pos) (tOp (rIx X.K) ta tb) := pe_ix ix_seq ha hb hs
theorem xTruth (ha : PE X a ta) (he : ∀ whole, isTrue a X.env whole = (do let v ← whole; standAt a.pos; holding [v] (truthy v)) := by intro _; rfl) : PT X a (tTruth X.K ta) := pt_truth ha he
theorem xB (r : List V → Hp → VK → Prop) {id : String} (hc : CallR X (.builtin id) r) (hm : X.mg x = none) (ha : PA X (e :: es) t) (hg : Gl X x := by rfl) (hv : bootBuiltins x = some (.builtin id) := by decide +kernel) (hn : x ≠ "__name__" := by decide) (hdb : (x == ("__debug__" : Str)) = false := by decide) (he : starEach (e :: es) X.env = (false, eval e X.env) :: starEach es X.env := by rfl) (hpl : (backTo pos (starEach es X.env)).any (·.1) = false := by rfl) : PE X (.Call (.Name x p) (e :: es) [] pos) (tCB r t) := pe_callB hc hg hm hv ha hn hdb he hpl
theorem xT (r : List V → Hp → VK → Prop) {T : String} (hc : CallR X (.type T) r) (hm : X.mg x = none) (ha : PA X (e :: es) t) (hg : Gl X x := by rfl) (hv : bootBuiltins x = some (.type T) := by decide +kernel) (hn : x ≠ "__name__" := by decide) (hdb : (x == ("__debug__" : Str)) = false := by decide) (he : starEach (e :: es) X.env = (false, eval e X.env) :: starEach es X.env := by rfl) (hpl : (backTo pos (starEach es X.env)).any (·.1) = false := by rfl) : PE X (.Call (.Name x p) (e :: es) [] pos) (tCB r t) := pe_callTy hc hg hm hv ha hn hdb he hpl
end
/-- a def of the text, as its callers know it -/
structure Ca (P : Program) (w : World) (K : PySem.W.Frag) (mg : Str → Option Value) (base : Heap) (CX : CXT) (k : Nat) (x : Str) (ps : List Str) (sp : Sp) : Prop where
  has : ∃ f fd, FnOk P w K mg base CX k f fd ps sp ∧ mg x = some (.ref f) ∧ PySem.W.keepIn K (.ref f) = true ∧ Binds K fd ps []
structure CaG (P : Program) (w : World) (K : PySem.W.Frag) (mg : Str → Option Value) (base : Heap) (CX : CXT) (k : Nat) (x : Str) (ps : List Str) (sp : Sp) : Prop where
  has : ∃ f fd, FnG P w K mg base CX k f fd ps sp ∧ mg x = some (.ref f) ∧ PySem.W.keepIn K (.ref f) = true ∧ Binds K fd ps []
section
variable {X : Cx} {CX : CXT} {k : Nat} {ps : List Str} {sp : Sp} {E : XK} {e : Expr} {es : List Expr} {p pos : Pos} {x : Str} {t : TA}
theorem xCall (C : Ca X.prog X.w X.K X.mg X.base CX k x ps sp) (hr : Room k X.A) (hx : Passes CX X E) (ha : PA X (e :: es) t) (hg : Gl X x := by rfl) (hdb : (x == ("__debug__" : Str)) = false := by decide) (he : starEach (e :: es) X.env = (false, eval e X.env) :: starEach es X.env := by rfl) (hpl : (backTo pos (starEach es X.env)).any (·.1) = false := by rfl) : PE X (.Call (.Name x p) (e :: es) [] pos) (tCall sp [] E t) := by
  obtain ⟨f, fd, F, hm, hk, hb⟩ := C.has
  exact pe_call F hr hg hm hk hb .nil hx ha hdb he hpl
theorem xCallG (C : CaG X.prog X.w X.K X.mg X.base CX k x ps sp) (hA : X.A.guards = some []) (hr : Room k X.A) (hx : Passes CX X E) (ha : PA X (e :: es) t) (hg : Gl X x := by rfl) (hdb : (x == ("__debug__" : Str)) = false := by decide) (he : starEach (e :: es) X.env = (false, eval e X.env) :: starEach es X.env := by rfl) (hpl : (backTo pos (starEach es X.env)).any (·.1) = false := by rfl) : PE X (.Call (.Name x p) (e :: es) [] pos) (tCall sp [] E t) := by
  obtain ⟨f, fd, F, hm, hk, hb⟩ := C.has
  exact pe_callG F hA hr hg hm hk hb .nil hx ha hdb he hpl
end
end DL

/-! New instances of an own class over built-in ones of which the nearest with a __new__ is B. -/
namespace DL
open PySem PySem.Spec PySem.Calls
/-- what such a class's mro tells of the built-in ones -/
structure Over (bm : List Value) (B : String) : Prop where
  isB : bm.contains (.type B) = true
  notA : bm.contains (.type "AttributeError") = false
  notN : bm.contains (.type "NameError") = false
section
variable {prog : Program} {w : World} {A : Around} {E : Value → Shared → Prop} {R : Result → Shared → Prop} {h : Heap} {g : Array GenState} {d : Drawn} {t : Nat} {os : OsState}
variable {nm q : Str} {C N : Addr} {bs bm tl : List Value} {hd : Bool} {sn : List Str} {sub : List Value} {ab : Bool} {col : Option Bool} {dd : Option Addr} {k0 k1 k2 k3 k5 : Option Value} {B nw ini : String} {us : List Value}
theorem over_has (o : Over bm B) : (Value.ref C :: bm).contains (.type B) = true ∧ (Value.ref C :: bm).contains (.type "AttributeError") = false ∧ (Value.ref C :: bm).contains (.type "NameError") = false := by
  refine ⟨?_, ?_, ?_⟩
  · rw [List.contains_cons, o.isB]; simp
  · rw [List.contains_cons, o.notA]; rfl
  · rw [List.contains_cons, o.notN]; rfl
theorem over_new (F : ExcBaseFacts B nw ini tl) (o : Over bm B) (hC : h.get? C = some (excClassObj nm q C N bs bm hd sn sub ab col dd k0 k1 k2 k3 k5 nw)) (few : us.length ≤ sizeLine)
    (k : R (.ok (.ret (.ref (h.objs.size + 1)))) ⟨(h.push (PySem.W.kdv_tup us)).push (HandSPX.excO C h.objs.size), g, d, t, os⟩) : codeAny (model prog w) A (.builtin nw ⟨.ref C :: us, []⟩) R ⟨h, g, d, t, os⟩ := by
  obtain ⟨c1, c2, c3⟩ := over_has (C := C) o
  have c0 := F.canon
  have e0 := F.ends
  refine codeAny_builtinAt F.entry ?_
  unfold Builtin.«BaseException.__new__»
  refine wpAt_bind ?_
  change wpAt _ _ _ (stack >>= _) _ _ _
  refine wpAt_bind (wpAt_stack fun p below => wpAt_of_wpAny ?_)
  wp_walk
  refine wpAt_of_wpAny ?_
  rw [F.owner]
  repeat (first | with_reducible refine wpAny_madeHere_exc c0 hC ?_ | with_reducible refine wpAny_loadPart_at hC ?_ | (with_reducible refine wpAny_isSubtype_exc hC ?_; first | rw [c1] | rw [c2] | rw [c3]) | wp_step)
  change R _ _
  rw [Heap.size_push]
  exact k
theorem over_type (F : ExcBaseFacts B nw ini tl) (o : Over bm B) (hC : h.get? C = some (excClassObj nm q C N bs bm hd sn sub ab col dd k0 k1 k2 k3 k5 nw)) {fI : Addr} {Q : Fin → Shared → Prop}
    (hi : PySem.W.Looks (model prog w) h (typeLookup (.ref C) "__init__") (some (.ref fI))) (hb : ∀ self, PySem.W.Looks (model prog w) h (bindSpecial (.ref fI) self) (.ref fI, [self])) (few : us.length ≤ sizeLine)
    (k : codeAny (model prog w) A (.call (.ref fI) ⟨.ref (h.objs.size + 1) :: us, []⟩)
      (fun r s' => match r with | .ok (.ret v) => v = .none ∧ Q (.done (.ret (.ref (h.objs.size + 1)))) s' | .ok _ => False | .error e => E e s') ⟨(h.push (PySem.W.kdv_tup us)).push (HandSPX.excO C h.objs.size), g, d, t, os⟩) :
    wpAny (model prog w) A (Builtin.«type.__call__» ⟨.ref C :: us, []⟩) Q E ⟨h, g, d, t, os⟩ := by
  obtain ⟨c1, c2, c3⟩ := over_has (C := C) o
  have on : ∀ b x, h.get? b = some x → ((h.push (PySem.W.kdv_tup us)).push (HandSPX.excO C h.objs.size)).get? b = some x := fun b x e => Heap.get?_push_of_some _ (Heap.get?_push_of_some _ e)
  have new : ((h.push (PySem.W.kdv_tup us)).push (HandSPX.excO C h.objs.size)).get? (h.objs.size + 1) = some (HandSPX.excO C h.objs.size) := by heap_get
  have self_ : (Value.ref C :: bm).contains (.ref C) = true := by simp
  have hC1 := on _ _ hC
  have hi1 := hi.keeps on
  have hb1 := (hb (.ref (h.objs.size + 1))).keeps on
  repeat (first | with_reducible refine wpAny_loadPart_at hC ?_ | with_reducible refine wpAny_madeBy_exc hC ?_ | wp_step)
  refine codeAny_call_builtin_code (Code.quiet_builtin _ F.quiet) ?_
  have st := F.noStar
  simp only [checkBuiltinCall, F.newKind, F.newSplit, F.newRow]
  repeat (first | refine wpAny_loadPart_at hC ?_ | (refine wpAny_isSubtype_exc hC ?_; rw [c1]) | refine wpAny_staticBase_exc hC ?_ | refine wpAny_madeBy_exc hC ?_ | simp only [bne_self_eq_false, Bool.false_eq_true, if_false] | wp_step)
  refine over_new F o hC few ?_
  change wpAny _ _ _ _ _ _
  unfold isInstance
  repeat (first | with_reducible refine wpAny_loadPart_at new ?_ | (with_reducible refine wpAny_isSubtype_exc hC1 ?_; rw [self_]) | wp_step)
  change wpAny _ _ (typeLookup (.ref C) _) _ _ _
  refine hi1.at (wpAny_holding (wpAny_bind (hb1.at (wpAny_bind (wpAny_call (codeAny_mono k fun r s' z => ?_))))))
  match r, z with
  | .error e, z => exact z
  | .ok (.ret v), z =>
    obtain ⟨ev, z⟩ := z
    subst ev
    first
      | exact wpAny_pure (wpAny_pure z)
      | (wp_walk; exact z)
  | .ok .next, z => exact z.elim
  | .ok .brk, z => exact z.elim
  | .ok .cont, z => exact z.elim
/-- C(..) of such a class, C's own __init__ at fI -/
theorem over_call (F : ExcBaseFacts B nw ini tl) (o : Over bm B) (hC : h.get? C = some (excClassObj nm q C N bs bm hd sn sub ab col dd k0 k1 k2 k3 k5 nw)) {fI : Addr}
    (hi : PySem.W.Looks (model prog w) h (typeLookup (.ref C) "__init__") (some (.ref fI))) (hb : ∀ self, PySem.W.Looks (model prog w) h (bindSpecial (.ref fI) self) (.ref fI, [self])) (few : us.length ≤ sizeLine)
    (k : codeAny (model prog w) (A.under (.builtin "type.__call__" ⟨.ref C :: us, []⟩)) (.call (.ref fI) ⟨.ref (h.objs.size + 1) :: us, []⟩) (PySem.W.InitBack (h.objs.size + 1) R) ⟨(h.push (PySem.W.kdv_tup us)).push (HandSPX.excO C h.objs.size), g, d, t, os⟩) :
    codeAny (model prog w) A (.call (.ref C) ⟨us, []⟩) R ⟨h, g, d, t, os⟩ := by
  have f1 := tc_lookup
  have f2 := tc_bind (.ref C)
  have ty : (⟨h, g, d, t, os⟩ : Shared).TypeIs (.ref C) "type" := ⟨_, hC, rfl⟩
  refine codeAny_of_tree ?_
  change wpAny _ _ (callAny (.ref C) _) _ _ _
  repeat (any_goals (first | assumption | with_reducible refine wpAny_loadPart_at hC ?_ | wp_step))
  refine ⟨rfl, codeAny_call_builtin_at (Code.quiet_builtin _ (by decide +kernel)) entry_typeCall (wpAny_check_type_call_sub hC (over_type F o hC hi hb few (codeAny_mono k fun r s' z => ?_)))⟩
  match r, z with
  | .error e, z => exact z
  | .ok (.ret v), z => exact z
  | .ok .next, z => exact z
  | .ok .brk, z => exact z
  | .ok .cont, z => exact z
end
end DL

/-! Error classes of the program, over own ones, over a built-in one (its mro: tl), each with an __init__ that keeps one thing. -/
namespace DL
open PySem PySem.Spec
open PyProof.Rows L2
/-- own classes, at most KeyError, then tl -/
theorem endsIn_cases {tl : List Value} : ∀ l : List Value, endsIn tl l = true → (l = tl ∨ l = .type "KeyError" :: tl) ∨ ∃ c r, l = .ref c :: r ∧ endsIn tl r = true := fun l e => by
  unfold endsIn at e
  split at e
  · exact .inr ⟨_, _, rfl, e⟩
  · rcases Bool.or_eq_true_iff.mp e with e | e
    · exact .inl (.inl (of_decide_eq_true e))
    · exact .inl (.inr (of_decide_eq_true e))
theorem endsIn_has {tl : List Value} (T : String) (hT : T ≠ "KeyError") (l : List Value) : endsIn tl l = true → l.contains (.type T) = tl.contains (.type T) := by
  have key : (Value.type "KeyError" :: tl).contains (.type T) = tl.contains (.type T) := by
    rw [List.contains_cons]
    have : ((Value.type T) == Value.type "KeyError") = false := beq_eq_false_iff_ne.mpr fun e => hT (Value.type.inj e)
    rw [this, Bool.false_or]
  induction l with
  | nil =>
    intro e
    rcases endsIn_cases _ e with (e | e) | ⟨_, _, e, _⟩
    · rw [e]
    · cases e
    · cases e
  | cons x l ih =>
    intro e
    rcases endsIn_cases _ e with (e | e) | ⟨c, r, e1, e2⟩
    · rw [e]
    · rw [e]; exact key
    · obtain ⟨q1, q2⟩ := List.cons.inj e1
      rw [q1, List.contains_cons, ih (by rw [q2]; exact e2)]
      rfl
/-- an attribute of that name may be stored: nothing built in among tl refuses -/
abbrev Passes2 (tl : List Value) : Prop := ∀ self : Value, refuseLoop self "__setattr__" tl = pure () ∧ refuseLoop self "__setattr__" (.type "KeyError" :: tl) = pure ()
theorem endsIn_pass {tl : List Value} (self : Value) (h : Passes2 tl) (l : List Value) : endsIn tl l = true → refuseLoop self "__setattr__" l = pure () := by
  induction l with
  | nil =>
    intro e
    rcases endsIn_cases _ e with (e | e) | ⟨_, _, e, _⟩
    · rw [e]; exact (h self).1
    · cases e
    · cases e
  | cons x l ih =>
    intro e
    rcases endsIn_cases _ e with (e | e) | ⟨c, r, e1, e2⟩
    · rw [e]; exact (h self).1
    · rw [e]; exact (h self).2
    · obtain ⟨q1, q2⟩ := List.cons.inj e1
      rw [q1, refuseLoop_ref]
      exact ih (by rw [q2]; exact e2)
/-- what is written of such a class: nw its __new__ -/
structure OwnE (K : PySem.W.Frag) (C : Addr) (tl : List Value) (nw : String) : Prop where
  cls : ∃ nm q N bs bm sn sub ab col dd k0 k1 k2 k3 k5, K.lookup C = some (excClassObj nm q C N bs bm true sn sub ab col dd k0 k1 k2 k3 k5 nw) ∧ endsIn tl bm = true
  puts : PySem.W.findIn K (.ref C) "__setattr__" = some (some (.builtin "object.__setattr__"))
  sub : PySem.W.subIn K (.ref C) (.type "BaseException") = some true
  typ : PySem.W.typeIn K (.ref C) = some (.type "type")
  keep : PySem.W.keepIn K (.ref C) = true
/-- what a class tells whose new instances take an attribute of a name into a dict of their own -/
structure TakesIn (K : PySem.W.Frag) (C : Addr) (cl : ClassData) (nm : Str) : Prop where
  is : PySem.W.clsIn K C = some cl
  row : cl.mro.isEmpty = false
  root : cl.mro.contains (.type "object") = true
  pass : ∀ self, refuseLoop self "__setattr__" cl.mro = pure ()
  dct : cl.hasDict = true
  lacks : PySem.W.findIn K (.ref C) nm = some none
section
open PySem.W PySem.Calls HandSPX
open Builtin.ObjectAttr Builtin
variable {P : Program} {w : World} {A : Around} {R : Result → Shared → Prop} {h₀ : Heap} {gs : Array GenState} {dr : Drawn} {n : Nat} {os : OsState} {K : W.Frag} {nm : Str} {tk : Tok} {v : Value} {e C : Addr} {parts : Array Value} {cl : ClassData}
/-- e.nm = v, e an exception that has no dict yet -/
theorem exc_put (c : TakesIn K C cl nm) (X : K.In h₀) (he : h₀.get? e = some { cls := .ref C, data := .fields parts })
    (after : ∀ h' t' dx, (∀ b o, b ≠ e → h₀.get? b = some o → h'.get? b = some o) → h₀.objs.size ≤ dx → dx ≠ e → h'.get? e = some { cls := .ref C, dict := some dx, data := .fields parts } → h'.Ns1 dx (fun y => if y = nm then some v else none) → R (.ok (.ret .none)) ⟨h', gs, dr, t', os⟩) :
    codeAny (model P w) A (.call (.builtin "object.__setattr__") ⟨[.ref e, .str nm tk, v], []⟩) R ⟨h₀, gs, dr, n, os⟩ := by
  obtain ⟨is, row, root, pass, dct, lacks⟩ := c
  have inst : W.InstAt h₀ e { cls := .ref C, data := .fields parts } C none := ⟨he, rfl, rfl, trivial⟩
  have old : e < h₀.objs.size := Heap.lt_size he
  have slot := F.store_object
  refine codeAny_call_builtin slot.slot.plain slot.entry (@W.check_slot (model P w) _ _ ⟨h₀, gs, dr, n, os⟩ "object.__setattr__" "object" "__setattr__" (.ref e) [.str nm tk, v] [] _ slot.kind slot.split (inst.type.andThen (W.looks_mroIn X ?_)) (slot.args (.ref e) (.str nm tk) v) ?_)
  · unfold W.mroIn
    rw [is, Option.bind_some, row, root]
    rfl
  have cls : W.Looks (model P w) h₀ (classData C) cl := W.looks_clsIn X is
  rw [W.osa_eq, refuse_eq]
  refine wpAny_bind (wpAny_bind (inst.type.at (wpAny_bind ((cls.andThen .now : W.Looks (model P w) h₀ (mroOf (.ref C)) cl.mro).at ?_))))
  rw [pass]
  refine wpAny_pure (wpAny_bind (inst.type.at (wpAny_bind ((W.looks_findIn X lacks).at (wpAny_bind ((W.Looks.now : W.Looks (model P w) h₀ (storeTaker? none) none).at ?_))))))
  change wpAny (model P w) _ (storeInOwnDict (.ref e) (.ref C) (.str nm tk) nm v false) _ _ _
  cases cl
  dsimp only at dct
  subst dct
  unfold storeInOwnDict
  unfold ownDictForStores
  repeat (first | with_reducible refine store_in_new ?_ ?_ | with_reducible refine wpAny_loadPart_at he ?_ | with_reducible refine cls.at ?_ | wp_step)
  · exact ⟨_, #[], _, (Heap.get?_update_ne _ _ _ _ (Nat.ne_of_gt old)).trans (Heap.get?_push_at rfl rfl), rfl, fun x hx => absurd hx (by simp), fun _ => rfl⟩
  · intro h' t' told stay
    refine after h' t' h₀.objs.size (fun b o hb ho => (stay.2 b (Nat.ne_of_lt (Heap.lt_size ho))).trans ?_) (Nat.le_refl _) (Nat.ne_of_gt old) ((stay.2 e (Nat.ne_of_lt old)).trans (Heap.get?_update_self _ (Heap.get?_push_of_some _ he) rfl)) told
    exact (Heap.get?_update_ne _ _ _ _ hb).trans (Heap.get?_push_of_some _ ho)
end
section
variable {X : Cx} {pins : List (Addr × Obj)} {σ : L2.St} {H : Hp} {s : Shared} {a C dx : Addr} {f : Str} {y : V} {u : Value} {Q : Unit → Shared → Prop} {E : Value → Shared → Prop} {A : Around} {tl : List Value} {nw : String}
/-- the heap behind it -/
def putH (H : Hp) (a C dx : Addr) (f : Str) (y : V) : Hp := upd (upd H dx (exd dx [(f, y)])) a (exo a C (some dx))
theorem exc_st (T : OwnE X.K C tl nw) (pass : Passes2 tl) (root : tl.contains (.type "object") = true) (I : Inv X pins σ H s) (ea : H a = some (exo a C none)) (lacks : PySem.W.findIn X.K (.ref C) f = some none) (ry : RelV y u)
    (after : ∀ dx s', H dx = none → dx ≠ a → Inv X pins σ (putH H a C dx f y) s' → Q () s') : wpAny (model X.prog X.w) A (setAttr (.ref a) f u) Q E s := by
  obtain ⟨c1, c2, c3, c4, tail, c5, c6, c7, c8, c9, x0, x1, x2, x3, x5, there, ends⟩ := T.cls
  have takes : TakesIn X.K C { name := c1, bases := c4, mro := .ref C :: tail, ns := c3, qualname := c2, hasDict := true, slotNames := c5, subclasses := c6, abstract := c7, collection := c8, hasDel := false } f := by
    refine ⟨by unfold PySem.W.clsIn; rw [there], rfl, ?_, fun self => ?_, rfl, lacks⟩
    · show List.contains (.ref C :: tail) _ = true
      rw [List.contains_cons, endsIn_has "object" (by decide) tail ends, root]
      rfl
    · show refuseLoop self _ (.ref C :: tail) = _
      rw [refuseLoop_ref]
      exact endsIn_pass self pass tail ends
  obtain ⟨tb, held⟩ := exo_at I.hok ea
  obtain ⟨h₀, gs, dr, n, os⟩ := s
  refine PySem.W.set_plain I.kIn (ox := { cls := .ref C, dict := none, data := .fields #[.ref tb, .none, .none, .none, .bool false, .none] }) (od := none) ⟨held, rfl, rfl, trivial⟩ T.puts (exc_put takes I.kIn held fun h' t' dx stay new apart now names => ?_)
  -- dx is new, a was there: all else stays
  have fresh : H dx = none := I.hok.fresh new
  have low : ∀ {b : Addr} {o : Obj}, h₀.get? b = some o → b ≠ dx := fun q => Nat.ne_of_lt (Nat.lt_of_lt_of_le (Heap.lt_size q) new)
  have other : ∀ {b : Addr}, H b = none → b ≠ a := fun n z => by rw [z, ea] at n; cases n
  have same : ∀ {b : Addr} {o : HO}, b ≠ a → b ≠ dx → H b = some o → putH H a C dx f y b = some o := fun za zd q => (upd_ne za).trans ((upd_ne zd).trans q)
  have kept : ∀ {b : Addr} {o : HO}, b ≠ a → H b = some o → putH H a C dx f y b = some o := fun za q => same za (ne_of_none q fresh) q
  refine after dx _ fresh apart (I.un (t' := t') ?_ fun b o q => ?_)
  · exact
      { keep := fun b o q n _ _ => stay b o (other n) q
        slot := fun b o q n _ _ => ⟨o.slots, stay b o (other n) q⟩
        free := fun b o q n _ => (upd_ne (other n)).trans ((upd_ne (low q)).trans n)
        there := fun b o q _ => by
          by_cases z : b = a
          · exact ⟨_, by rw [z]; exact now⟩
          · exact ⟨o, stay b o z q⟩
        tups := fun b xs q => kept (at_ne ea q exo_tup) q
        frzs := fun b o v q => kept (at_ne ea q exo_frz) q
        tbls := fun b ps q => ⟨#[], by rw [kept (at_ne ea q exo_tbl) q]; simp⟩ }
  · by_cases za : b = a
    · subst za
      obtain rfl := Option.some.inj (upd_same.symm.trans q)
      exact exo_ok now
    · by_cases zd : b = dx
      · subst zd
        obtain rfl := Option.some.inj (upd_same.symm.trans ((upd_ne za).symm.trans q))
        exact exd_ok names (relO_put (fs := []) ry fun _ => trivial)
      · have was : H b = some o := (upd_ne zd).symm.trans ((upd_ne za).symm.trans q)
        exact (I.hok b o was).stay (fun b' v' hb' z' => stay b' v' (hb'.elim (fun z => by rw [z]; exact za) fun z => at_ne ea z exo_own) z') (fun b' z' => kept (at_ne ea z' exo_own) z') fun b' xs z' => kept (at_ne ea z' exo_tup) z'
end
/-- self.f = y within such an __init__ -/
def tPut (K : PySem.W.Frag) (tl : List Value) (nw : String) (f : Str) (to te : TE) : TS := fun D σ H => te σ H fun y H1 => to σ H1 fun x H2 => ∃ a C : Addr, x = .ref a ∧ OwnE K C tl nw ∧ PySem.W.findIn K (.ref C) f = some none ∧ H2 a = some (exo a C none) ∧
  ∀ dx, H2 dx = none → dx ≠ a → D.nx σ (upd (upd H2 dx (exd dx [(f, y)])) a (exo a C (some dx)))
section
variable {X : Cx} {o e : Expr} {es : List Expr} {to te : TE} {ta : TA} {f : Str} {p p' pos : Pos} {tl : List Value} {nw : String}
theorem ps_put (hp : Passes2 tl) (ho : tl.contains (.type "object") = true) (hO : PE X o to) (he : PE X e te) (hs : swapsWith e (some (.Attribute o f p')) pos.line X.env = pure false := by rfl) :
    PS X (.Assign [.Attribute o f p'] e pos) (tPut X.K tl nw f to te) := ⟨fun pins s σ H D I h =>
  plainObj_wpAny_Assign_Attribute (thn (he.run pins s σ H _ I h) fun v s1 ⟨y, H1, I1, r1, q1⟩ => thn (hO.run pins s1 σ H1 _ I1 q1) fun u s2 ⟨x, H2, I2, r2, a, C, ex, T, hno, ea, q⟩ => by
    subst ex
    cases (show u = Value.ref a from r2)
    exact exc_st T hp ho I2 ea hno r1 fun dx s' n ne J => ⟨σ, _, J, q dx n ne⟩) hs⟩
/-- C(e), C's own __init__ as it is promised -/
theorem pmk_e {B initId : String} {CX : CXT} {x : Str} {C fI : Addr} {k : Nat} {fd : FuncData} {ps : List Str} {sp : Sp} {ds : List Value} {dvs : List V} (FB : ExcBaseFacts B nw initId tl) (nB : B ≠ "KeyError") (T : OwnE X.K C tl nw) (iC : PySem.W.findIn X.K (.ref C) "__init__" = some (some (.ref fI)))
    (tI : PySem.W.typeIn X.K (.ref fI) = some (.type "function")) (F1 : FnOk X.prog X.w X.K X.mg X.base CX k fI fd ps sp) (hr : Room (k + 1) X.A) (hb : Binds X.K fd ps ds) (hd : Vals dvs ds) (hx : Passes CX X (fun _ _ _ => False)) (hm : X.mg x = some (.ref C)) (ha : PA X (e :: es) ta) (hg : Gl X x := by rfl)
    (hdb : (x == ("__debug__" : Str)) = false := by decide) (he : starEach (e :: es) X.env = (false, eval e X.env) :: starEach es X.env := by rfl) (hpl : (backTo pos (starEach es X.env)).any (·.1) = false := by rfl) : PMk X (.Call (.Name x p) (e :: es) [] pos) (tMkO C sp dvs ta) := by
  intro pins s σ H Q I h
  obtain ⟨c1, c2, c3, c4, tail, c5, c6, c7, c8, c9, x0, x1, x2, x3, x5, there, ends⟩ := T.cls
  refine wpAny_Call_Name_kw (ld_glob I hg hm (PySem.W.callWith_K (h₀ := X.base) I.ok.mod.kin T.keep (thn (ha.run pos pins s σ H _ I h) fun us sh ⟨vs, G, J, rv, few, told⟩ => ⟨J.kIn, ?_⟩) he hpl) hdb)
  change wpAny _ _ (call (.ref C) us) _ _ _
  obtain ⟨h₀, gs, dr, n, os⟩ := sh
  -- its arguments' tuple at n0, the object itself behind it
  let n0 := h₀.objs.size
  have up : n0 ≤ n0 + 1 := Nat.le_succ _
  have told := told (n0 + 1) (J.hok.fresh up)
  have stay : ∀ b o, h₀.get? b = some o → ((h₀.push (PySem.W.kdv_tup us)).push (HandSPX.excO C h₀.objs.size)).get? b = some o := fun b o z => Heap.get?_push_of_some _ (Heap.get?_push_of_some _ z)
  have made : ((h₀.push (PySem.W.kdv_tup us)).push (HandSPX.excO C h₀.objs.size)).get? (h₀.objs.size + 1) = some (HandSPX.excO C h₀.objs.size) := by heap_get
  have J1 := J.laid (t' := n) (a := n0 + 1) (o := exo (n0 + 1) C none) stay up (exo_ok made)
  have all : Vals (V.ref (n0 + 1) :: (vs ++ dvs)) (Value.ref (n0 + 1) :: (us ++ ds)) := .cons rfl (rv.append hd)
  have many : (Value.ref (n0 + 1) :: us ++ ds).length = ps.length := all.length.symm.trans (F1.len _ _ _ _ told)
  have short : us.length ≤ sizeLine := by rw [← Paired.length rv, sizeLine_eq]; omega
  refine wpAny_call (over_call FB ⟨(endsIn_has B nB tail ends).trans FB.hasB, (endsIn_has _ (by decide) tail ends).trans FB.noAttr, (endsIn_has _ (by decide) tail ends).trans FB.noName⟩ (J.kIn _ _ there) (PySem.W.looks_findIn J.kIn iC) (fun self => PySem.W.bind_fn J.kIn self tI) short (codeAny_mono (F1.run _ X.stack _ _ ⟨Value.ref (n0 + 1) :: us, []⟩ _ _ _ (fun _ _ _ => False) (hr.make C us []) (J1.env0.make C us []) (hb _ (Value.ref (n0 + 1) :: us) J1.kIn many) all told) ?_))
  rintro (er | fl) s' out
  · exact hx pins σ _ _ er s' J1 out
  match fl, s', out with
  | .ret u, ⟨h2, g2, d2, t2, o2⟩, ⟨v, H2, eo, gb, un, hok, rel, ev, d, fs, ea, ed, fd1, last⟩ =>
    rw [ev] at rel
    exact ⟨rel, mk_end (raises_own T.sub T.typ) J up stay un hok eo gb ea ed fd1 last⟩
end
end DL

/-! raise and try, as data. -/
namespace DL
open PySem PySem.Spec
open PyProof.Rows L2
theorem PS.imp {X : Cx} {st : Stmt} {t t' : TS} (h : PS X st t) (k : ∀ D σ H, t' D σ H → t D σ H) : PS X st t' := ⟨fun pins s σ H D I q => h.run pins s σ H D I (k D σ H q)⟩
/-- the __init__ of such a class -/
def spIni (K : PySem.W.Frag) (C : Addr) (f : Str) : Sp := fun vs H Q _ => ∃ a v, vs = [.ref a, v] ∧ PySem.W.findIn K (.ref C) f = some none ∧ H a = some (exo a C none) ∧ ∀ dx, H dx = none → dx ≠ a → Q .non (upd (upd H dx (exd dx [(f, v)])) a (exo a C (some dx)))
theorem ini_read {K : PySem.W.Frag} {C : Addr} {f : Str} {tl : List Value} {nw : String} {vs : List V} {H : Hp} {Q : VK} {E : XK} (T : OwnE K C tl nw) (h : spIni K C f vs H Q E) : tPut K tl nw f (tVar 0) (tVar 1) { nx := fun _ H' => Q .non H', rt := Q } (vs.map some) H := by
  obtain ⟨a, v, rfl, hno, e, q⟩ := h
  exact ⟨v, rfl, .ref a, rfl, a, C, rfl, T, hno, e, q⟩
/-- all that is known of an error class with one thing kept -/
structure Er (P : Program) (w : World) (K : PySem.W.Frag) (mg : Str → Option Value) (base : Heap) (x : Str) (C : Addr) (f : Str) : Prop where
  own : ∃ (tl : List Value) (nw B initId : String) (fI : Addr) (fd : FuncData) (ps : List Str), ExcBaseFacts B nw initId tl ∧ B ≠ "KeyError" ∧ OwnE K C tl nw ∧ PySem.W.findIn K (.ref C) "__init__" = some (some (.ref fI)) ∧ PySem.W.typeIn K (.ref fI) = some (.type "function") ∧ FnOk P w K mg base CX0 1 fI fd ps (spIni K C f) ∧ Binds K fd ps []
  at_ : mg x = some (.ref C)
  xf : XfC K C
  no : PySem.W.findIn K (.ref C) f = some none
/-- raise C(e) -/
def tRz (K : PySem.W.Frag) (C : Addr) (f : Str) (te : TE) (W : WX) : TS := fun _ σ H => tMkO C (spIni K C f) [] (tCons te tNil) σ H fun cls d H' => W cls d σ H'
theorem xRaise {X : Cx} {W : WX} {x : Str} {C : Addr} {f : Str} {e : Expr} {te : TE} {p pos pos' : Pos} (R : Er X.prog X.w X.K X.mg X.base x C f) (hc : X.calm = true) (tk : Takes X W) (hr : Room 2 X.A) (he : PE X e te) (hg : Gl X x := by rfl)
    (hdb : (x == ("__debug__" : Str)) = false := by decide) (hs : starEach [e] X.env = (false, eval e X.env) :: starEach [] X.env := by rfl) (hs2 : (backTo pos (starEach [] X.env)).any (·.1) = false := by rfl) : PS X (.Raise (some (.Call (.Name x p) [e] [] pos)) none pos') (tRz X.K C f te W) := by
  obtain ⟨tl, nw, B, initId, fI, fd, ps, FB, nB, T, iC, tI, F1, hb⟩ := R.own
  exact ps_raise hc tk (pmk_e (pos := pos) (p := p) FB nB T iC tI F1 hr hb .nil pass0 R.at_ (pa_cons he pa_nil hs) hg hdb hs hs2)
theorem s_raise {K : PySem.W.Frag} {M : Md} {C : Addr} {f : Str} {te : TE} {W : WX} {D : Ends} {σ : L2.St} {J H : Hp} {P : PyData → Prop} (hno : PySem.W.findIn K (.ref C) f = some none) (w : Wf M J H) (h : EvP K M te σ J H P)
    (q : ∀ v d J1 H1 dx, Wf M J1 H1 → Tr M J H J1 H1 → P d → Da K J1 v d → H1 dx = none → Wf M J1 (upd H1 dx (.xd [(f, v)])) → Tr M J H J1 (upd H1 dx (.xd [(f, v)])) → W (.ref C) (some dx) σ (upd H1 dx (.xd [(f, v)]))) : tRz K C f te W D σ H := by
  refine h J H w w.tr _ fun v d J1 H1 w1 t1 pd a => ⟨by show 1 ≤ 1000; decide, fun e he => ⟨e, v, rfl, hno, upd_same, fun dx hx ne => ⟨rfl, dx, [(f, v)], upd_same, ?_, ?_, ?_⟩⟩⟩
  · rw [upd_ne ne, upd_same]
  · rw [upd_ne ne] at hx; exact hx
  · rw [upd_ne ne] at hx
    have e1 : upd (del (upd (upd (upd H1 e (exo e C none)) dx (exd dx [(f, v)])) e (exo e C (some dx))) e) dx (.xd [(f, v)]) = upd H1 dx (.xd [(f, v)]) := by
      funext b
      by_cases hb : b = dx
      · rw [hb, upd_same, upd_same]
      · rw [upd_ne hb, upd_ne hb]
        by_cases hc : b = e
        · rw [hc, del_same, he]
        · rw [del_ne hc, upd_ne hc, upd_ne hb, upd_ne hc]
    rw [e1]
    have t2 := w1.cell (o := .xd [(f, v)]) hx
    exact q v d J1 H1 dx w1 t1 pd a hx (t2.wf w1) (t1.trans t2)
/-- what a def promises that may raise: cl, fl: the error classes and what each keeps -/
def spX (K : PySem.W.Frag) (cl : Str → Addr) (fl : Str → Str) (pre : List PyData → Prop) (post : List PyData → PyData → Prop) (exc : List PyData → Str → PyData → Prop) : Sp := fun vs H Q E => ∃ J ds, Sub J H ∧ Das K J vs ds ∧ pre ds ∧
  (∀ v d J' H', Tr Md.pure J H J' H' → post ds d → Da K J' v d → Q v H') ∧ ∀ c x dx v J' H', Tr Md.pure J H J' H' → exc ds c x → H' dx = some (.xd [(fl c, v)]) → Da K J' v x → E (.ref (cl c)) (some dx) H'
theorem spX_D {K : PySem.W.Frag} {M : Md} {cl : Str → Addr} {fl : Str → Str} {pre : List PyData → Prop} {post : List PyData → PyData → Prop} {exc : List PyData → Str → PyData → Prop} {ds : List PyData} {E : XK} (h : pre ds) (hn : ∀ c x, ¬ exc ds c x) : SpD K M (spX K cl fl pre post exc) ds (post ds) E := fun vs J H w a Q q =>
  ⟨J, ds, w.jh, a, h, fun v d J' H' t p a' => q v d J' H' ((w.lift t).wf w) (w.lift t) p a', fun c x _ _ _ _ _ z => (hn c x z).elim⟩
/-- a call within a try: it may come back or raise -/
theorem ev_callS {K : PySem.W.Frag} {M : Md} {σ : L2.St} {J H : Hp} {cl : Str → Addr} {fl : Str → Str} {pre : List PyData → Prop} {post : List PyData → PyData → Prop} {exc : List PyData → Str → PyData → Prop} {E : L2.St → XK} {ta : TA} {ds : List PyData} {Q : VK} (w : Wf M J H) (h : EvA K M ta σ J H (· = ds)) (hp : pre ds)
    (q : ∀ v d J1 H1, Wf M J1 H1 → Tr M J H J1 H1 → post ds d → Da K J1 v d → Q v H1)
    (qe : ∀ c x dx v J1 H1, Wf M J1 H1 → Tr M J H J1 H1 → exc ds c x → H1 dx = some (.xd [(fl c, v)]) → Da K J1 v x → E σ (.ref (cl c)) (some dx) H1) : tCallS (spX K cl fl pre post exc) E ta σ H Q :=
  h J H w w.tr _ fun vs ds' J1 H1 w1 t1 e a => by
    subst e
    exact ⟨J1, _, w1.jh, a, hp, fun v d J' H' t p a' => q v d J' H' ((w1.lift t).wf w1) (t1.trans (w1.lift t)) p a', fun c x dx v J' H' t z hx a' => qe c x dx v J' H' ((w1.lift t).wf w1) (t1.trans (w1.lift t)) z hx a'⟩
theorem xCallS {X : Cx} {CX : CXT} {k : Nat} {ps : List Str} {sp : Sp} {E : L2.St → XK} {e : Expr} {es : List Expr} {p pos : Pos} {x : Str} {t : TA} (C : Ca X.prog X.w X.K X.mg X.base CX k x ps sp) (hr : Room k X.A) (hx : ∀ σ, PassesAt CX X σ (E σ)) (ha : PA X (e :: es) t) (hg : Gl X x := by rfl) (hdb : (x == ("__debug__" : Str)) = false := by decide) (he : starEach (e :: es) X.env = (false, eval e X.env) :: starEach es X.env := by rfl) (hpl : (backTo pos (starEach es X.env)).any (·.1) = false := by rfl) : PE X (.Call (.Name x p) (e :: es) [] pos) (tCallS sp E t) := by
  obtain ⟨f, fd, F, hm, hk, hb⟩ := C.has
  exact pe_callS F hr hg hm hk hb hx ha hdb he hpl
end DL

/-! Data of told kinds: numbers, rows of numbers. -/
namespace DL
open PySem PySem.Spec
open PyProof.Rows L2
section
variable {K : PySem.W.Frag} {M : Md} {σ : L2.St} {J H J0 H0 : Hp} {te : TE} {tu tw : TS} {d : PyData} {i j : Int} {D : Ends}
theorem s_asgD {k : Nat} (w : Wf M J H) (h : EvD K M te σ J H d) (q : ∀ v J1 H1, Wf M J1 H1 → Tr M J H J1 H1 → Da K J1 v d → D.nx (σ.set k (some v)) H1) : tAsg te (gName k) D σ H := s_asg w h fun v d' J1 H1 w1 t1 e a => by subst e; exact q v J1 H1 w1 t1 a
theorem s_asgI {k : Nat} (w : Wf M J H) (h : EvD K M te σ J H (.int i)) (q : ∀ J1 H1, Wf M J1 H1 → Tr M J H J1 H1 → D.nx (σ.set k (some (.int i))) H1) : tAsg te (gName k) D σ H := s_asg w h fun v d' J1 H1 w1 t1 e a => by subst e; rw [da_int a]; exact q J1 H1 w1 t1
theorem s_retD (w : Wf M J H) (h : EvD K M te σ J H d) (q : ∀ v J1 H1, Wf M J1 H1 → Tr M J H J1 H1 → Da K J1 v d → D.rt v H1) : tRet te D σ H := s_ret w h fun v d' J1 H1 w1 t1 e a => by subst e; exact q v J1 H1 w1 t1 a
theorem s_ifD {b : Bool} {c : TT} (w : Wf M J H) (h : EvT M c σ J H (· = b)) (q1 : b = true → ∀ J1 H1, Wf M J1 H1 → Tr M J H J1 H1 → tu D σ H1) (q2 : b = false → ∀ J1 H1, Wf M J1 H1 → Tr M J H J1 H1 → tw D σ H1) : tIfS c tu tw D σ H :=
  s_if w h (fun e => q1 e.symm) fun e => q2 e.symm
theorem s_forD {k : Nat} {wi : TI} {tb : TS} (ds : List PyData) (I : Nat → L2.St → Hp → Hp → Prop) (w0 : Wf M J0 H0) (t0 : Tr M J0 H0 J H) (hw : EvW K M wi σ J H (· = ds)) (h0 : ∀ J2 H2, Wf M J2 H2 → Tr M J H J2 H2 → I 0 σ J2 H2)
    (hn : ∀ i σ' J' H' T xs, I i σ' J' H' → H' T = none → I i σ' (upd J' T (.tup xs)) (upd H' T (.tup xs)))
    (hs : ∀ i d x σ' J2 J' H', ds[i]? = some d → Wf M J' H' → Tr M J0 H0 J' H' → Sub J J2 → Sub J2 J' → I i σ' J' H' → Da K J' x d → tb { D with nx := Nxt M J0 H0 J2 (I (i + 1)), ct := Nxt M J0 H0 J2 (I (i + 1)), bk := D.nx } (σ'.set k (some x)) H')
    (hd : ∀ σ' J' H', Wf M J' H' → Tr M J0 H0 J' H' → Sub J J' → I ds.length σ' J' H' → D.nx σ' H') : tFor wi (gName k) tb D σ H :=
  s_for (Pw := (· = ds)) (fun _ => I) w0 t0 hw (fun _ J2 H2 _ => h0 J2 H2) (fun _ => hn) (fun ds' i d x σ' J2 J' H' e hdi => hs i d x σ' J2 J' H' (by rw [← e]; exact hdi)) fun ds' σ' J' H' e w t s h => hd σ' J' H' w t s (by rw [e] at h; exact h)
theorem s_next (q : D.nx σ H) : tNext D σ H := q
end
/-- a row of numbers -/
def oD (xs : List Int) : List PyData := xs.map .int
theorem oD_len (xs : List Int) : (oD xs).length = xs.length := by unfold oD; simp
theorem oD_at {xs : List Int} {n : Nat} {d : PyData} (h : (oD xs)[n]? = some d) : ∃ x, xs[n]? = some x ∧ d = .int x := by
  unfold oD at h
  rw [List.getElem?_map] at h
  cases e : xs[n]? with
  | none => rw [e] at h; cases h
  | some x => rw [e] at h; exact ⟨x, rfl, (Option.some.inj h).symm⟩
theorem oD_app (xs ys : List Int) : oD xs ++ oD ys = oD (xs ++ ys) := by unfold oD; simp
theorem oD_rev (xs : List Int) : (oD xs).reverse = oD xs.reverse := by unfold oD; simp
theorem oD_inj {xs ys : List Int} (h : oD xs = oD ys) : xs = ys := by
  induction xs generalizing ys with
  | nil => cases ys with
    | nil => rfl
    | cons _ _ => cases h
  | cons x xs ih => cases ys with
    | nil => cases h
    | cons y ys =>
      have h' : PyData.int x :: oD xs = PyData.int y :: oD ys := h
      obtain ⟨e1, e2⟩ := List.cons.inj h'
      cases e1
      rw [ih e2]
/-- xs[lo:hi] -/
def cutA {α : Type} (xs : List α) (lo hi : Option Int) : List α := (xs.drop (HT.sIx xs.length 0 lo)).take (HT.sIx xs.length xs.length hi - HT.sIx xs.length 0 lo)
theorem cut_map {α : Type} (f : α → PyData) (xs : List α) (lo hi : Option Int) : cut (xs.map f) lo hi = (cutA xs lo hi).map f := by
  unfold cut cutA
  rw [List.length_map, List.map_take, List.map_drop]
theorem cut_oD (xs : List Int) (lo hi : Option Int) : cut (oD xs) lo hi = oD (cutA xs lo hi) := cut_map _ xs lo hi
theorem cutA_nat {α : Type} (xs : List α) (a b : Nat) : cutA xs (some (a : Int)) (some (b : Int)) = (xs.drop a).take (b - a) := by
  unfold cutA
  rw [HT.sIx_nat, HT.sIx_nat]
  rcases Nat.le_total a xs.length with h | h
  · rw [Nat.min_eq_left h]
    rcases Nat.le_total b xs.length with h2 | h2
    · rw [Nat.min_eq_left h2]
    · rw [Nat.min_eq_right h2, List.take_of_length_le (by rw [List.length_drop]; omega), List.take_of_length_le (by rw [List.length_drop]; omega)]
  · rw [Nat.min_eq_right h, List.drop_of_length_le (Nat.le_refl _), List.drop_of_length_le h]; simp
theorem cutA_to {α : Type} (xs : List α) (b : Nat) : cutA xs none (some (b : Int)) = xs.take b := by
  unfold cutA
  rw [HT.sIx_none, HT.sIx_nat, List.drop_zero, Nat.sub_zero]
  rcases Nat.le_total b xs.length with h | h
  · rw [Nat.min_eq_left h]
  · rw [Nat.min_eq_right h, List.take_of_length_le h, List.take_length]
theorem cutA_from {α : Type} (xs : List α) (a : Nat) : cutA xs (some (a : Int)) none = xs.drop a := by
  unfold cutA
  rw [HT.sIx_nat, HT.sIx_none]
  rcases Nat.le_total a xs.length with h | h
  · rw [Nat.min_eq_left h, List.take_of_length_le (by rw [List.length_drop]; exact Nat.le_refl _)]
  · rw [Nat.min_eq_right h, List.drop_of_length_le (Nat.le_refl _), List.drop_of_length_le h]; simp
theorem ints_shaped : ∀ xs : List Int, PyData.canLayAll0 (oD xs) = true
  | [] => by simp [oD, PyData.canLayAll0]
  | x :: xs => by
    have h := ints_shaped xs
    unfold oD at h ⊢
    simp [PyData.canLayAll0, PyData.canLay0, h]
theorem ints_depth : ∀ xs : List Int, PyData.depthAll (oD xs) = 0
  | [] => by simp [oD, PyData.depthAll]
  | x :: xs => by
    have h := ints_depth xs
    unfold oD at h ⊢
    simp [PyData.depthAll, PyData.depth, h]
theorem sh_int (i : Int) : SeqAt.shaped (.int i) = true := by simp [SeqAt.shaped, PyData.canLay0, PyData.depth]
theorem sh_list (xs : List Int) : SeqAt.shaped (.list (oD xs)) = true := by simp [SeqAt.shaped, PyData.canLay0, PyData.depth, ints_shaped, ints_depth]
theorem sh_tup (xs : List Int) : SeqAt.shaped (.tuple (oD xs)) = true := by simp [SeqAt.shaped, PyData.canLay0, PyData.depth, ints_shaped, ints_depth]
theorem eqv_int (i j : Int) : PyData.eqv (.int i) (.int j) = decide (i = j) := by
  unfold PyData.eqv
  by_cases h : i = j
  · simp [h]
  · simp [h]
theorem eqvAll_ints : ∀ xs ys : List Int, PyData.eqvAll (oD xs) (oD ys) = decide (xs = ys)
  | [], [] => by simp [oD, PyData.eqvAll]
  | [], _ :: _ => by simp [oD, PyData.eqvAll]
  | _ :: _, [] => by simp [oD, PyData.eqvAll]
  | x :: xs, y :: ys => by
    have h := eqvAll_ints xs ys
    unfold oD at h ⊢
    simp only [List.map_cons, PyData.eqvAll, h, eqv_int]
    by_cases h1 : x = y <;> by_cases h2 : xs = ys <;> simp [h1, h2]
theorem eqv_list (xs ys : List Int) : PyData.eqv (.list (oD xs)) (.list (oD ys)) = decide (xs = ys) := by
  unfold PyData.eqv
  exact eqvAll_ints xs ys
theorem eqv_tup (xs ys : List Int) : PyData.eqv (.tuple (oD xs)) (.tuple (oD ys)) = decide (xs = ys) := by
  unfold PyData.eqv
  exact eqvAll_ints xs ys
theorem log2_le {n k : Nat} (h : n < 2 ^ (k + 1)) : n.log2 ≤ k := by
  by_cases z : n = 0
  · subst z; simp
  · exact Nat.le_of_lt_succ ((Nat.log2_lt z).mpr h)
theorem cmul_small {i j : Int} (h1 : i.natAbs < 2 ^ 64) (h2 : j.natAbs < 2 ^ 64) : CMulW i j := by
  have a := log2_le (k := 63) h1
  have b := log2_le (k := 63) h2
  show i.natAbs.log2 + j.natAbs.log2 < 1000000
  omega
theorem cdiv_small {i j : Int} (h1 : 0 < j) (h2 : j < 2 ^ 64) : CDivW i j := ⟨h1, Nat.lt_of_le_of_lt (log2_le (k := 63) (by omega)) (by decide)⟩
end DL

/-! Where a law's draws come from: a list of a list of numbers and a number, which changes with each draw. -/
namespace DL
open PySem PySem.Spec
open PyProof.Rows L2
/-- h: the list; g: the list of great numbers within it -/
def drOk (h g : Addr) (H : Hp) : Prop := ∃ (cs : List Int) (n : Int), H h = some (.lst [.ref g, .int n]) ∧ H g = some (.lst (cs.map V.int)) ∧ (∀ c ∈ cs, 0 ≤ c) ∧ cs.length ≤ 63 ∧ 0 ≤ n ∧ n < 2147483647
structure HasDr (M : Md) (h g : Addr) : Prop where
  ne : h ≠ g
  fh : M.fp h
  fg : M.fp g
  ok : ∀ H, M.inv H → drOk h g H
  put : ∀ H H', M.inv H → (∀ a, M.fp a → a ≠ h → a ≠ g → H' a = H a) → (∀ a o, H a = some o → (∀ ys, o ≠ .lst ys) → H' a = some o) → drOk h g H' → M.inv H'
/-- nothing but these two changes -/
def Md.draw (h g : Addr) : Md := ⟨fun a => a = h ∨ a = g, drOk h g, false, fun H H' e _ ⟨cs, n, h1, h2, h3⟩ => ⟨cs, n, by rw [e h (.inl rfl)]; exact h1, by rw [e g (.inr rfl)]; exact h2, h3⟩, fun H ⟨cs, n, h1, h2, _⟩ a e => by
  rcases e with e | e
  · rw [e]; exact ⟨_, h1, (fun _ _ z => by cases z)⟩
  · rw [e]; exact ⟨_, h2, (fun _ _ z => by cases z)⟩⟩
theorem Md.draw_has {h g : Addr} (ne : h ≠ g) : HasDr (Md.draw h g) h g := ⟨ne, .inl rfl, .inr rfl, fun _ x => x, fun _ _ _ _ _ x => x⟩
/-- what a draw below n promises -/
def spDraw : Sp := fun vs H Q _ => ∃ M h g J n, vs = [.ref h, .int n] ∧ HasDr M h g ∧ Wf M J H ∧ 0 < n ∧ n < 2 ^ 64 ∧ ∀ i H', Wf M J H' → Tr M J H J H' → 0 ≤ i → i < n → Q (.int i) H'
section
variable {K : PySem.W.Frag} {M : Md} {h g : Addr} {J H : Hp}
/-- the two are written: nothing else changes but what is new -/
theorem dr_tr (hd : HasDr M h g) (w : Wf M J H) {H' : Hp} (k : ∀ a o, a ≠ h → a ≠ g → H a = some o → H' a = some o) (x : drOk h g H') : Tr M J H J H' := by
  have nj : ∀ {a o}, J a = some o → a ≠ h ∧ a ≠ g := fun {a o} e => ⟨(fun z => by rw [z, (w.out h hd.fh).1] at e; cases e), (fun z => by rw [z, (w.out g hd.fg).1] at e; cases e)⟩
  obtain ⟨cs0, n0, y1, y2, _⟩ := hd.ok H w.inv
  obtain ⟨cs, n, x1, x2, x3⟩ := x
  have nl : ∀ a o, H a = some o → (∀ ys, o ≠ .lst ys) → H' a = some o := fun a o e ne => k a o (fun z => by rw [z, y1] at e; exact ne _ (Option.some.inj e).symm) (fun z => by rw [z, y2] at e; exact ne _ (Option.some.inj e).symm) e
  refine ⟨.refl _, fun a o e => k a o (nj e).1 (nj e).2 (w.jh a o e), fun a o nf _ e => k a o (fun z => nf (by rw [z]; exact hd.fh)) (fun z => nf (by rw [z]; exact hd.fg)) e, hd.put H H' w.inv (fun a fa n1 n2 => ?_) nl ⟨cs, n, x1, x2, x3⟩, fun _ _ _ _ z => z, fun a o b e => ?_, fun z => z⟩
  · cases q : H a with
    | none => exact absurd q (w.out a fa).2
    | some o => exact k a o n1 n2 q
  · by_cases n1 : a = h
    · rw [n1]; exact ⟨.lst [.ref g, .int n], (fun _ _ z => by cases z), x1⟩
    by_cases n2 : a = g
    · rw [n2]; exact ⟨.lst (cs.map V.int), (fun _ _ z => by cases z), x2⟩
    exact ⟨o, b, k a o n1 n2 e⟩
/-- h and g as they stand -/
structure DrAt (h g : Addr) (cs : List Int) (n : Int) (H : Hp) : Prop where
  hh : H h = some (.lst [.ref g, .int n])
  hg : H g = some (.lst (cs.map V.int))
  pos : ∀ c ∈ cs, 0 ≤ c
  few : cs.length ≤ 63
  n0 : 0 ≤ n
  n1 : n < 2147483647
theorem DrAt.ok {cs : List Int} {n : Int} (x : DrAt h g cs n H) : drOk h g H := ⟨cs, n, x.hh, x.hg, x.pos, x.few, x.n0, x.n1⟩
theorem drAt_of (x : drOk h g H) : ∃ cs n, DrAt h g cs n H := by
  obtain ⟨cs, n, a, b, c, d, e, f⟩ := x
  exact ⟨cs, n, a, b, c, d, e, f⟩
abbrev tH0 (K : PySem.W.Frag) : TE := tOp (rIx K) (tVar 0) (tC (.int 0))
abbrev tH1 (K : PySem.W.Frag) : TE := tOp (rIx K) (tVar 0) (tC (.int 1))
abbrev rMod : R2 := rI (fun _ j => 0 < j) fun i j => .int (i % j)
abbrev rDiv : R2 := rI CDivW fun i j => .int (i / j)
abbrev rMul : R2 := rI CMulW fun i j => .int (i * j)
/-- a draw, as the laws write it (c: what their numbers are mixed with) -/
def tDraw (K : PySem.W.Frag) (c : Int) : TS :=
  tSeq (tWhile (tAnd (tTest (tOp (rNeD K) (tH0 K) (tLst tNil))) (tTest (tOp (rEqD K) (tOp (rIx K) (tH0 K) (tUn (rU fun i => .int (-i)) (tC (.int 1)))) (tC (.int 0))))) (tDrop (tBM0 K "list" rPop (tH0 K))))
  (tSeq (tIfS (tTest (tOp (rNeD K) (tH0 K) (tLst tNil))) (tSeq (tAsg (tCB rInt1 (tCons (tBM0 K "list" rPop (tH0 K)) tNil)) (gName 2)) (tSeq (tDrop (tBM K "list" rAppend (tH0 K) (tCons (tOp rDiv (tVar 2) (tVar 1)) tNil))) (tRet (tOp rMod (tVar 2) (tVar 1))))) tNext)
  (tSeq (tAsg (tOp rMod (tCB rInt1 (tCons (tOp (rPlus K) (tOp rMul (tH1 K) (tC (.int 48271))) (tC (.int c))) tNil)) (tC (.int 2147483647))) (gSub (tVar 0) (tC (.int 1)) rSetL)) (tRet (tOp rMod (tCB rInt1 (tCons (tOp rDiv (tH1 K) (tC (.int 64))) tNil)) (tVar 1)))))
variable {σ : L2.St} {Q : VK} {cs : List Int} {n : Int}
theorem rd_h0 (hs : σ[0]? = some (some (.ref h))) (x : DrAt h g cs n H) (q : Q (.ref g) H) : tH0 K σ H Q := ⟨_, hs, .inl ⟨h, _, 0, _, rfl, rfl, .of x.hh, rfl, q⟩⟩
theorem rd_h1 (hs : σ[0]? = some (some (.ref h))) (x : DrAt h g cs n H) (q : Q (.int n) H) : tH1 K σ H Q := ⟨_, hs, .inl ⟨h, _, 1, _, rfl, rfl, .of x.hh, rfl, q⟩⟩
theorem DrAt.new {p : Addr} {o : HO} (x : DrAt h g cs n H) (hp : H p = none) : DrAt h g cs n (upd H p o) :=
  ⟨(upd_ne (ne_of_none x.hh hp)).trans x.hh, (upd_ne (ne_of_none x.hg hp)).trans x.hg, x.pos, x.few, x.n0, x.n1⟩
theorem dp_ints {p : Addr} (e : H p = some (.lst (cs.map V.int))) : Dp K H (.ref p) (.list (oD cs)) := by
  refine .lst (.of e) ?_
  clear e
  induction cs with
  | nil => exact .nil
  | cons c cs ih => exact .cons (.int c) ih
theorem rd_full {Qb : Bool → Hp → Prop} (hs : σ[0]? = some (some (.ref h))) (x : DrAt h g cs n H) (q : ∀ p, H p = none → Qb (!decide (cs = [])) (upd H p (.lst []))) : tTest (tOp (rNeD K) (tH0 K) (tLst tNil)) σ H Qb := by
  refine rd_h0 hs x ⟨Nat.zero_le _, fun p hp => ?_⟩
  refine ⟨.list (oD cs), .list (oD []), dp_ints (x.new hp).hg, dp_ints (cs := []) upd_same, sh_list _, sh_list _, _, rfl, ?_⟩
  rw [eqv_list]
  exact q p hp
theorem atI_last {xs : List Int} {c : Int} : atI ((xs ++ [c]).map V.int) (-1) = some (.int c) := by
  unfold atI ixN
  rw [List.length_map, List.length_append, List.length_singleton, if_neg (by omega), if_pos (by omega)]
  have e : (-1 + ((xs.length + 1 : Nat) : Int)).toNat = xs.length := by omega
  rw [e]
  simp
theorem rd_draw (hd : HasDr M h g) (w : Wf M J H) (hn : 0 < n) (hn2 : n < 2 ^ 64) {c : Int} (hc : 0 ≤ c ∧ c < 2 ^ 60) (q : ∀ i H', Wf M J H' → Tr M J H J H' → 0 ≤ i → i < n → Q (.int i) H') :
    tDraw K c { nx := fun _ H' => Q .non H', rt := Q } [some (.ref h), some (.int n), none] H := by
  obtain ⟨cs0, m0, x0⟩ := drAt_of (hd.ok H w.inv)
  have go : ∀ {G : Hp} {cs m}, (∀ a o, a ≠ h → a ≠ g → H a = some o → G a = some o) → DrAt h g cs m G → Tr M J H J G := fun k x => dr_tr hd w k x.ok
  refine ⟨fun m σ G => σ = [some (.ref h), some (.int n), none] ∧ (∀ a o, a ≠ h → a ≠ g → H a = some o → G a = some o) ∧ ∃ cs k, DrAt h g cs k G ∧ cs.length = m, ⟨_, rfl, fun _ _ _ _ e => e, cs0, m0, x0, rfl⟩, ?_⟩
  rintro m σ G ⟨rfl, kp, cs, k, x, rfl⟩
  have kn : ∀ {G : Hp} {p : Addr} {o : HO}, (∀ a o, a ≠ h → a ≠ g → H a = some o → G a = some o) → G p = none → ∀ a u, a ≠ h → a ≠ g → H a = some u → upd G p o a = some u := fun {G p o} kp hp a u n1 n2 e => by
    rw [upd_ne (ne_of_none (kp a u n1 n2 e) hp)]; exact kp a u n1 n2 e
  have kg : ∀ {G : Hp} {o : HO}, (∀ a o, a ≠ h → a ≠ g → H a = some o → G a = some o) → ∀ a u, a ≠ h → a ≠ g → H a = some u → upd G g o a = some u := fun {G o} kp a u n1 n2 e => by
    rw [upd_ne n2]; exact kp a u n1 n2 e
  have kh : ∀ {G : Hp} {o : HO}, (∀ a o, a ≠ h → a ≠ g → H a = some o → G a = some o) → ∀ a u, a ≠ h → a ≠ g → H a = some u → upd G h o a = some u := fun {G o} kp a u n1 n2 e => by
    rw [upd_ne n1]; exact kp a u n1 n2 e
  -- behind the while
  have rest : ∀ {G : Hp} {cs : List Int} {k : Int}, (∀ a o, a ≠ h → a ≠ g → H a = some o → G a = some o) → DrAt h g cs k G →
      tSeq (tIfS (tTest (tOp (rNeD K) (tH0 K) (tLst tNil))) (tSeq (tAsg (tCB rInt1 (tCons (tBM0 K "list" rPop (tH0 K)) tNil)) (gName 2)) (tSeq (tDrop (tBM K "list" rAppend (tH0 K) (tCons (tOp rDiv (tVar 2) (tVar 1)) tNil))) (tRet (tOp rMod (tVar 2) (tVar 1))))) tNext)
        (tSeq (tAsg (tOp rMod (tCB rInt1 (tCons (tOp (rPlus K) (tOp rMul (tH1 K) (tC (.int 48271))) (tC (.int c))) tNil)) (tC (.int 2147483647))) (gSub (tVar 0) (tC (.int 1)) rSetL)) (tRet (tOp rMod (tCB rInt1 (tCons (tOp rDiv (tH1 K) (tC (.int 64))) tNil)) (tVar 1))))
        { nx := fun _ H' => Q .non H', rt := Q } [some (.ref h), some (.int n), none] G := by
    intro G cs k kp x
    refine rd_full rfl x fun p hp => ?_
    have x1 := x.new (o := .lst []) hp
    have kp1 := kn (o := .lst []) kp hp
    by_cases hcs : cs = []
    · rw [decide_eq_true hcs]
      refine rd_h1 rfl x1 ⟨k, 48271, rfl, rfl, cmul_small (by have := x1.n0; have := x1.n1; omega) (by decide), ?_⟩
      refine .inl ⟨_, c, rfl, rfl, .inl ⟨_, rfl, _, 2147483647, rfl, rfl, (by show (0 : Int) < 2147483647; decide), .ref h, rfl, ?_⟩⟩
      refine ⟨h, _, 1, 1, rfl, rfl, x1.hh, rfl, ?_⟩
      have x2 : DrAt h g cs ((k * 48271 + c) % 2147483647) (upd (upd G p (.lst [])) h (.lst [.ref g, .int ((k * 48271 + c) % 2147483647)])) :=
        ⟨upd_same, (upd_ne hd.ne.symm).trans x1.hg, x1.pos, x1.few, by omega, by omega⟩
      have t := go (kh kp1) x2
      refine rd_h1 rfl x2 ⟨_, 64, rfl, rfl, cdiv_small (by decide) (by decide), .inl ⟨_, rfl, .int n, rfl, _, n, rfl, rfl, hn, ?_⟩⟩
      exact q _ _ (t.wf w) t (Int.emod_nonneg _ (by omega)) (Int.emod_lt_of_pos _ hn)
    · rw [decide_eq_false hcs]
      obtain ⟨ds, z, rfl⟩ : ∃ ds z, cs = ds ++ [z] := ⟨cs.dropLast, cs.getLast hcs, (List.dropLast_concat_getLast hcs).symm⟩
      refine rd_h0 rfl x1 ⟨.inl ⟨rfl, _, .of x1.hg⟩, g, _, .int z, rfl, rfl, x1.hg, by simp, ?_⟩
      have z0 : 0 ≤ z := x1.pos z (by simp)
      have x2 : DrAt h g ds k (upd (upd G p (.lst [])) g (.lst (ds.map V.int))) :=
        ⟨(upd_ne hd.ne).trans x1.hh, upd_same, fun y hy => x1.pos y (by simp [hy]), by have := x1.few; rw [List.length_append] at this; omega, x1.n0, x1.n1⟩
      have e1 : ((ds ++ [z]).map V.int).dropLast = ds.map V.int := by rw [List.map_append]; simp
      rw [e1]
      refine .inl ⟨z, rfl, ?_⟩
      refine rd_h0 rfl x2 ⟨.inl ⟨rfl, _, .of x2.hg⟩, _, rfl, _, rfl, z, n, rfl, rfl, cdiv_small hn hn2, g, _, .int (z / n), rfl, rfl, x2.hg, ?_, ?_⟩
      · have := x2.few
        rw [List.length_map]
        exact Nat.lt_of_le_of_lt this (by decide)
      · have x3 : DrAt h g (ds ++ [z / n]) k (upd (upd (upd G p (.lst [])) g (.lst (ds.map V.int))) g (.lst (ds.map V.int ++ [.int (z / n)]))) :=
          ⟨(upd_ne hd.ne).trans x2.hh, by rw [upd_same, List.map_append]; rfl, fun y hy => by
            rcases List.mem_append.mp hy with hy | hy
            · exact x2.pos y hy
            · rw [List.mem_singleton.mp hy]; exact Int.ediv_nonneg z0 (by omega), by have := x1.few; rw [List.length_append] at this ⊢; exact this, x1.n0, x1.n1⟩
        have t := go (kg (kg kp1)) x3
        exact ⟨.int z, rfl, .int n, rfl, z, n, rfl, rfl, hn, q _ _ (t.wf w) t (Int.emod_nonneg _ (by omega)) (Int.emod_lt_of_pos _ hn)⟩
  refine rd_full rfl x fun p hp => ?_
  have x1 := x.new (o := .lst []) hp
  have kp1 := kn (o := .lst []) kp hp
  by_cases hcs : cs = []
  · rw [decide_eq_true hcs]
    exact rest kp1 x1
  · rw [decide_eq_false hcs]
    obtain ⟨ds, z, rfl⟩ : ∃ ds z, cs = ds ++ [z] := ⟨cs.dropLast, cs.getLast hcs, (List.dropLast_concat_getLast hcs).symm⟩
    refine rd_h0 rfl x1 ⟨1, rfl, .inl ⟨g, _, -1, .int z, rfl, rfl, .of x1.hg, atI_last, .int z, .int 0, .int z, .int 0, sh_int z, sh_int 0, _, rfl, ?_⟩⟩
    rw [eqv_int]
    by_cases hz : z = 0
    · rw [decide_eq_true hz]
      have x2 : DrAt h g ds k (upd (upd G p (.lst [])) g (.lst (ds.map V.int))) :=
        ⟨(upd_ne hd.ne).trans x1.hh, upd_same, fun y hy => x1.pos y (by simp [hy]), by have := x1.few; rw [List.length_append] at this; omega, x1.n0, x1.n1⟩
      refine ⟨fun σ' G' => σ' = [some (.ref h), some (.int n), none] ∧ (∀ a o, a ≠ h → a ≠ g → H a = some o → G' a = some o) ∧ ∃ k, DrAt h g ds k G', fun σ' G' ⟨e, b, k', b2⟩ => ⟨ds.length, by rw [List.length_append]; exact Nat.lt_succ_self _, e, b, ds, k', b2, rfl⟩, ?_⟩
      refine rd_h0 rfl x1 ⟨.inl ⟨rfl, _, .of x1.hg⟩, g, _, .int z, rfl, rfl, x1.hg, by simp, rfl, ?_⟩
      have e1 : ((ds ++ [z]).map V.int).dropLast = ds.map V.int := by rw [List.map_append]; simp
      rw [e1]
      exact ⟨kg kp1, k, x2⟩
    · rw [decide_eq_false hz]
      exact rest kp1 x1
end
/-! ### how it is made -/
def absI (i : Int) : Int := if i < 0 then -i else i
theorem absI_pos (i : Int) : 0 ≤ absI i := by unfold absI; split <;> omega
def dAbs : PyData → PyData
  | .int i => .int (absI i)
  | d => d
theorem dAbs_map (ns : List Int) : (oD ns).map dAbs = oD (ns.map absI) := by unfold oD; simp [dAbs, Function.comp_def]
def dBig : PyData → Bool
  | .int i => decide ((10 : Int) ^ 18 ≤ i)
  | _ => false
theorem dBig_filter (ns : List Int) : (oD ns).filter dBig = oD (ns.filter fun i => decide ((10 : Int) ^ 18 ≤ i)) := by
  unfold oD
  rw [List.filter_map]
  rfl
theorem Tr.sql {K : PySem.W.Frag} {J H J1 H1 : Hp} (t : Tr Md.pure J H J1 H1) {a : Addr} {xs : List V} (h : SqL K H a xs) : SqL K H1 a xs := by
  rcases h with (h | ⟨o, h⟩) | h
  · exact .inl (.inl (t.keep _ _ (fun z => z) h))
  · exact .inl (.inr ⟨o, t.keep _ _ (fun z => z) h⟩)
  · exact .inr h
theorem das_intsV {K : PySem.W.Frag} {J : Hp} (ns : List Int) : Das K J (ns.map V.int) (oD ns) := das_ints ns
theorem cutV_ints (ns : List Int) (lo hi : Option Int) : cutV (ns.map V.int) lo hi = (cutA ns lo hi).map V.int := by
  unfold cutV cutA
  rw [List.length_map, List.map_take, List.map_drop]
/-- a part of the script -/
theorem ev_script {K : PySem.W.Frag} {J H : Hp} {σ : L2.St} {i : Nat} {a : Addr} {ns : List Int} {tl th : TO} {lo hi : Option Int} (hs : σ[i]? = some (some (.ref a))) (hS : SqL K H a (ns.map V.int)) (h1 : EvO K Md.pure tl σ J H (· = lo)) (h2 : EvO K Md.pure th σ J H (· = hi)) :
    EvD K Md.pure (tSl (rSlL K) (tVar i) tl th) σ J H (.list (oD (cutA ns lo hi))) := fun J1 H1 w t Q q => ⟨.ref a, hs, h1 J1 H1 w t _ fun lo' J2 H2 w2 t2 e => by
  subst e
  refine h2 J2 H2 w2 (t.trans t2) _ fun hi' J3 H3 w3 t3 e => ?_
  subst e
  refine ⟨a, _, rfl, ((t.trans t2).trans t3).sql hS, fun p hp => ?_⟩
  have t4 := w3.new (o := .lst (cutV (ns.map V.int) lo' hi')) hp
  refine q _ _ _ _ (t4.wf w3) ((t2.trans t3).trans t4) rfl (.lst upd_same ?_)
  rw [cutV_ints]
  exact das_intsV _⟩
/-- the list of draws, as the laws make it -/
def tHeap (K : PySem.W.Frag) (p q m c : Int) : TS :=
  tSeq (tAsg (tLc (iList K (tSl (rSlL K) (tVar 0) tNoPart (tPart (tC (.int 63))))) (gName 4) tYes (tCB rAbs (tCons (tCB rInt1 (tCons (tVar 4) tNil)) tNil)) [4]) (gName 2))
  (tSeq (tAsg (tOp (rPlus K) (tC (.int p)) (tOp rMul (tC (.int q)) (tVar 1))) (gName 3))
  (tSeq (tFor (iList K (tVar 2)) (gName 4) (tAsg (tOp rMod (tCB rInt1 (tCons (tOp (rPlus K) (tOp (rPlus K) (tOp rMul (tVar 3) (tC (.int 48271))) (tOp rMod (tVar 4) (tC (.int m)))) (tC (.int c))) tNil)) (tC (.int 2147483647))) (gName 3)))
  (tRet (tLst (tCons (tRevL K (tLc (iList K (tVar 2)) (gName 4) (tTest (tOp (rI0 fun i j => .bl (decide (j ≤ i))) (tVar 4) (tOp (rI CPow fun i j => .int (i ^ j.toNat)) (tC (.int 10)) (tC (.int 18))))) (tVar 4) [4])) (tCons (tVar 3) tNil))))))
/-- what it promises: nothing that stood has changed, the two lists are new -/
def spHeap (K : PySem.W.Frag) : Sp := fun vs H Q _ => ∃ (a : Addr) (ns : List Int) (b : Int), vs = [.ref a, .int b] ∧ SqL K H a (ns.map V.int) ∧ 0 ≤ b ∧ b < 1000 ∧
  ∀ h g H', (∀ a o, H a = some o → H' a = some o) → H h = none → H g = none → h ≠ g → drOk h g H' → Q (.ref h) H'
end DL

namespace DL
open PySem PySem.Spec
open PyProof.Rows L2
local macro_rules | `(tactic| walk_at "rep") => `(tactic| first | assumption | exact Da.int _ | exact Da.bl _ | exact Da.str _ | exact Da.non | exact Sub.da (by assumption) (by assumption) | exact Sub.da (Tr.jj (by assumption)) (by assumption))
local macro_rules | `(tactic| walk_at "arith") => `(tactic| first | assumption | omega | decide | exact cmul_small (by omega) (by omega) | exact cdiv_small (by omega) (by omega))
local macro_rules | `(tactic| walk_at "shp") => `(tactic| first | exact sh_int _ | exact sh_tup _ | exact sh_list _ | assumption)
local macro_rules | `(tactic| walk_at "od") => `(tactic| first
  | with_reducible exact od_plus
  | with_reducible exact od_sub
  | ((with_reducible refine' od_mul ?h1); walk_at "arith")
  | ((with_reducible refine' od_mod ?h1); walk_at "arith")
  | ((with_reducible refine' od_fdiv ?h1); walk_at "arith")
  | ((with_reducible refine' od_pow ?h1); exact ⟨by decide, by decide, by decide⟩)
  | with_reducible exact od_lt | with_reducible exact od_le | with_reducible exact od_gt | with_reducible exact od_ge
  | ((with_reducible refine' od_plusT ?h1); walk_at "arith")
  | ((with_reducible refine' od_plusL ?h1); walk_at "arith")
  | ((with_reducible refine' od_plusS ?h1); walk_at "arith")
  | with_reducible exact od_isN | with_reducible exact od_notN
  | ((with_reducible refine od_eq ?_ ?_) <;> walk_at "shp")
  | ((with_reducible refine od_ne ?_ ?_) <;> walk_at "shp")
  | ((with_reducible refine od_inL ?_ ?_) <;> walk_at "shp")
  | ((with_reducible refine od_ixL ?_); assumption)
  | ((with_reducible refine od_ixT ?_); assumption))
local macro_rules | `(tactic| walk_at "ea") => `(tactic| first | with_reducible exact ea_nil | ((with_reducible refine' ea_consD ?h1 ?h2); (case h1 => walk_at "ev"); (case h2 => walk_at "ea")))
local macro_rules | `(tactic| walk_at "eo") => `(tactic| first | with_reducible exact eo_none | ((with_reducible refine' eo_at ?h1); (case h1 => walk_at "ev")))
local macro_rules | `(tactic| walk_at "cd") => `(tactic| first
  | with_reducible exact cd_lenL | with_reducible exact cd_lenT | with_reducible exact cd_tupL | with_reducible exact cd_tupT | with_reducible exact cd_lstL | with_reducible exact cd_lstT | with_reducible exact cd_abs | with_reducible exact cd_int)
local macro_rules | `(tactic| walk_at "ev") => `(tactic| first
  | with_reducible exact ev_int | with_reducible exact ev_bl | with_reducible exact ev_str | with_reducible exact ev_non
  | ((with_reducible refine' ev_var ?h1 ?h2); (case h1 => exact rfl); (case h2 => walk_at "rep"))
  | ((with_reducible refine' ev_opD ?h1 ?h2 ?h3); (case h1 => walk_at "ev"); (case h2 => walk_at "ev"); (case h3 => walk_at "od"))
  | ((with_reducible refine' ev_tupD ?h1); (case h1 => walk_at "ea"))
  | ((with_reducible refine' ev_lstD ?h1); (case h1 => walk_at "ea"))
  | ((with_reducible refine' ev_revL ?h1); (case h1 => walk_at "ev"))
  | ((with_reducible refine' ev_slD ?h1 ?h2 ?h3 ?h4); (case h1 => walk_at "ev"); (case h2 => walk_at "eo"); (case h3 => walk_at "eo"); (case h4 => first | with_reducible exact sd_tup | with_reducible exact sd_list))
  | ((with_reducible refine' ev_cbD ?h1 ?h2); (case h1 => walk_at "ea"); (case h2 => walk_at "cd"))
  | ((with_reducible refine' ev_notV ?h1); (case h1 => walk_at "ev"))
  | assumption)
local macro_rules | `(tactic| walk_at "et") => `(tactic| first
  | ((with_reducible refine' et_testD ?h1); (case h1 => walk_at "ev"))
  | ((with_reducible refine' et_BD ?h1); (case h1 => walk_at "ev"))
  | ((with_reducible refine' et_notD ?h1); (case h1 => walk_at "et"))
  | ((with_reducible refine' et_andD ?h1 ?h2); (case h1 => walk_at "et"); (case h2 => intro _; walk_at "et"))
  | ((with_reducible refine' et_orD ?h1 ?h2); (case h1 => walk_at "et"); (case h2 => intro _; walk_at "et"))
  | assumption)

theorem rd_heap {K : PySem.W.Frag} {H : Hp} {Q : VK} {a : Addr} {ns : List Int} {b p q m c : Int} (hS : SqL K H a (ns.map V.int)) (hp : 0 ≤ p ∧ p < 1000000) (hq : 0 ≤ q ∧ q < 1000) (hb : 0 ≤ b ∧ b < 1000) (hm : 0 < m ∧ m < 2 ^ 32) (hc : 0 ≤ c ∧ c < 1000)
    (k : ∀ h g H', (∀ a o, H a = some o → H' a = some o) → H h = none → H g = none → h ≠ g → drOk h g H' → Q (.ref h) H') : tHeap K p q m c { nx := fun _ H' => Q .non H', rt := Q } [some (.ref a), some (.int b), none, none, none] H := by
  have w0 : Wf Md.pure (fun _ => none) H := ⟨(fun _ _ e => by cases e), trivial, nofun, nofun⟩
  have l63 : (cutA ns none (some 63)).length ≤ 63 := by
    have e := cutA_to ns 63
    rw [show ((63 : Nat) : Int) = 63 from rfl] at e
    rw [e, List.length_take]
    omega
  refine s_asgD (K := K) (d := .list (oD ((cutA ns none (some 63)).map absI))) w0 ?_ fun v1 J1 H1 w1 t1 a1 => ?_
  · rw [← dAbs_map]
    refine ev_lcMap (ew_listD (ev_script rfl hS (by walk_at "eo") (by walk_at "eo"))) (by rw [oD_len]; exact Nat.lt_of_le_of_lt l63 (by decide)) (fun x => rfl) fun d x J1 H1 hd w t ax => ?_
    obtain ⟨n, hn⟩ := List.getElem?_of_mem hd
    obtain ⟨i, _, rfl⟩ := oD_at hn
    show EvD K Md.pure _ _ _ _ (.int (absI i))
    unfold absI
    walk_at "ev"
  generalize hcs : (cutA ns none (some 63)).map absI = cs at a1
  have cpos : ∀ x ∈ cs, 0 ≤ x := fun x hx => by
    rw [← hcs] at hx
    obtain ⟨y, _, rfl⟩ := List.mem_map.mp hx
    exact absI_pos y
  have clen : cs.length ≤ 63 := by rw [← hcs, List.length_map]; exact l63
  dsimp only
  refine s_asgI (K := K) w1 (i := p + q * b) ?_ fun J2 H2 w2 t2 => ?_
  · walk_at "ev"
  have a2 := t2.jj.da a1
  dsimp only
  have z1 : 0 ≤ q * b := Int.mul_nonneg hq.1 hb.1
  have z2 : q * b ≤ 1000 * 1000 := Int.mul_le_mul (by omega) (by omega) hb.1 (by decide)
  refine s_forD (K := K) (oD cs) (fun i σ' J' H' => ∃ n o, σ' = [some (.ref a), some (.int b), some v1, some (.int n), o] ∧ 0 ≤ n ∧ n < 2147483647) w0 (t1.trans t2) ?_ (fun J2 H2 _ _ => ⟨p + q * b, none, rfl, by omega, by omega⟩) (fun i σ' J' H' T xs h _ => h) ?_ ?_
  · exact ew_listD (by walk_at "ev")
  · rintro i d x σ' J2 J' H' hdi w' t' s1 s2 ⟨n, o, rfl, n0, n1⟩ ax
    obtain ⟨y, hy, rfl⟩ := oD_at hdi
    rw [da_int ax]
    have m0 : 0 ≤ y % m := Int.emod_nonneg _ (by omega)
    have m1 : y % m < m := Int.emod_lt_of_pos _ (by omega)
    refine s_asgI (K := K) w' (i := (n * 48271 + y % m + c) % 2147483647) ?_ fun J1 H1 w1 t1 => ⟨J1, w1, t'.trans t1, s2.trans t1.jj, (n * 48271 + y % m + c) % 2147483647, some (.int y), rfl, by omega, by omega⟩
    walk_at "ev"
  rintro σ' J' H' w' t' s1 ⟨n, o, rfl, n0, n1⟩
  have a3 := s1.da a2
  dsimp only
  refine s_retD (K := K) (d := .list [.list (oD (cs.filter fun i => decide ((10 : Int) ^ 18 ≤ i)).reverse), .int n]) w' ?_ fun v J3 H3 w3 t3 a3 => ?_
  · refine ev_lstD (ea_consD ?_ (by walk_at "ea"))
    rw [← oD_rev, ← dBig_filter]
    refine ev_revL ?_
    have e : (oD cs).filter dBig = ((oD cs).filter dBig).map id := by simp
    rw [e]
    refine ev_lcFilter (ew_listD (by walk_at "ev")) (by rw [oD_len]; exact Nat.lt_of_le_of_lt clen (by decide)) (fun x => rfl) (fun d x J1 H1 hd w t ax => ?_) fun d x J1 H1 hd _ w t ax => ?_
    · obtain ⟨k, hk⟩ := List.getElem?_of_mem hd
      obtain ⟨i, _, rfl⟩ := oD_at hk
      show EvT Md.pure _ _ _ _ (· = decide ((10 : Int) ^ (18 : Int).toNat ≤ i))
      walk_at "et"
    · show EvD K Md.pure _ _ _ _ d
      walk_at "ev"
  have tt := t'.trans t3
  obtain ⟨h, xs, rfl, jh, ha⟩ := da_lst a3
  cases ha with
  | cons b1 b2 =>
    obtain ⟨u, rfl, b3⟩ := das_one b2
    obtain ⟨g, ys, rfl, jg, hb⟩ := da_lst b1
    have eu := da_int b3
    subst eu
    have ey := das_ints_eq (ns := (cs.filter fun i => decide ((10 : Int) ^ 18 ≤ i)).reverse) hb
    subst ey
    have fresh : ∀ {x o}, J3 x = some o → H x = none := fun {x o} e => by
      cases q : H x with
      | none => rfl
      | some u => rw [tt.frp x (by rw [q]; exact nofun) rfl] at e; cases e
    refine k h g H3 (fun a o e => tt.keep a o (fun z => z) e) (fresh jh) (fresh jg) (fun e => ?_) ⟨_, n, tt.jh _ _ jh, tt.jh _ _ jg, fun x hx => ?_, ?_, n0, n1⟩
    · rw [e, jg] at jh
      have z := HO.lst.inj (Option.some.inj jh)
      cases hl : (cs.filter fun i => decide ((10 : Int) ^ 18 ≤ i)).reverse with
      | nil => rw [hl] at z; cases z
      | cons i is => rw [hl] at z; cases z
    · exact cpos x (List.mem_filter.mp (List.mem_reverse.mp hx)).1
    · rw [List.length_reverse]
      exact Nat.le_trans (List.length_filter_le _ _) clen
end DL

namespace DL
open PySem PySem.Spec
open PyProof.Rows L2
local macro_rules | `(tactic| walk_at "rep") => `(tactic| first | assumption | exact Da.int _ | exact Da.bl _ | exact Da.str _ | exact Da.non | exact Sub.da (by assumption) (by assumption) | exact Sub.da (Tr.jj (by assumption)) (by assumption))
local macro_rules | `(tactic| walk_at "arith") => `(tactic| first | assumption | omega | decide | exact cmul_small (by omega) (by omega) | exact cdiv_small (by omega) (by omega))
local macro_rules | `(tactic| walk_at "shp") => `(tactic| first | exact sh_int _ | exact sh_tup _ | exact sh_list _ | assumption)
local macro_rules | `(tactic| walk_at "od") => `(tactic| first
  | with_reducible exact od_plus
  | with_reducible exact od_sub
  | ((with_reducible refine' od_mul ?h1); walk_at "arith")
  | ((with_reducible refine' od_mod ?h1); walk_at "arith")
  | ((with_reducible refine' od_fdiv ?h1); walk_at "arith")
  | ((with_reducible refine' od_pow ?h1); exact ⟨by decide, by decide, by decide⟩)
  | with_reducible exact od_lt | with_reducible exact od_le | with_reducible exact od_gt | with_reducible exact od_ge
  | ((with_reducible refine' od_plusT ?h1); walk_at "arith")
  | ((with_reducible refine' od_plusL ?h1); walk_at "arith")
  | ((with_reducible refine' od_plusS ?h1); walk_at "arith")
  | with_reducible exact od_isN | with_reducible exact od_notN
  | ((with_reducible refine od_eq ?_ ?_) <;> walk_at "shp")
  | ((with_reducible refine od_ne ?_ ?_) <;> walk_at "shp")
  | ((with_reducible refine od_inL ?_ ?_) <;> walk_at "shp")
  | ((with_reducible refine od_ixL ?_); assumption)
  | ((with_reducible refine od_ixT ?_); assumption))
local macro_rules | `(tactic| walk_at "ea") => `(tactic| first | with_reducible exact ea_nil | ((with_reducible refine' ea_consD ?h1 ?h2); (case h1 => walk_at "ev"); (case h2 => walk_at "ea")))
local macro_rules | `(tactic| walk_at "eo") => `(tactic| first | with_reducible exact eo_none | ((with_reducible refine' eo_at ?h1); (case h1 => walk_at "ev")))
local macro_rules | `(tactic| walk_at "cd") => `(tactic| first
  | with_reducible exact cd_lenL | with_reducible exact cd_lenT | with_reducible exact cd_tupL | with_reducible exact cd_tupT | with_reducible exact cd_lstL | with_reducible exact cd_lstT | with_reducible exact cd_abs | with_reducible exact cd_int)
local macro_rules | `(tactic| walk_at "ev") => `(tactic| first
  | with_reducible exact ev_int | with_reducible exact ev_bl | with_reducible exact ev_str | with_reducible exact ev_non
  | ((with_reducible refine' ev_var ?h1 ?h2); (case h1 => exact rfl); (case h2 => walk_at "rep"))
  | ((with_reducible refine' ev_opD ?h1 ?h2 ?h3); (case h1 => walk_at "ev"); (case h2 => walk_at "ev"); (case h3 => walk_at "od"))
  | ((with_reducible refine' ev_tupD ?h1); (case h1 => walk_at "ea"))
  | ((with_reducible refine' ev_lstD ?h1); (case h1 => walk_at "ea"))
  | ((with_reducible refine' ev_revL ?h1); (case h1 => walk_at "ev"))
  | ((with_reducible refine' ev_slD ?h1 ?h2 ?h3 ?h4); (case h1 => walk_at "ev"); (case h2 => walk_at "eo"); (case h3 => walk_at "eo"); (case h4 => first | with_reducible exact sd_tup | with_reducible exact sd_list))
  | ((with_reducible refine' ev_cbD ?h1 ?h2); (case h1 => walk_at "ea"); (case h2 => walk_at "cd"))
  | ((with_reducible refine' ev_notV ?h1); (case h1 => walk_at "ev"))
  | assumption)
local macro_rules | `(tactic| walk_at "et") => `(tactic| first
  | ((with_reducible refine' et_testD ?h1); (case h1 => walk_at "ev"))
  | ((with_reducible refine' et_BD ?h1); (case h1 => walk_at "ev"))
  | ((with_reducible refine' et_notD ?h1); (case h1 => walk_at "et"))
  | ((with_reducible refine' et_andD ?h1 ?h2); (case h1 => walk_at "et"); (case h2 => intro _; walk_at "et"))
  | ((with_reducible refine' et_orD ?h1 ?h2); (case h1 => walk_at "et"); (case h2 => intro _; walk_at "et"))
  | assumption)
/-- what a law's helper promises whose first argument is the list of draws -/
def spH (K : PySem.W.Frag) (pre : List PyData → Prop) (post : List PyData → PyData → Prop) : Sp := fun vs H Q _ => ∃ M h g J us ds, vs = .ref h :: us ∧ HasDr M h g ∧ Wf M J H ∧ Das K J us ds ∧ pre ds ∧
  ∀ v d J' H', Wf M J' H' → Tr M J H J' H' → post ds d → Da K J' v d → Q v H'
theorem ev_callH {K : PySem.W.Frag} {M : Md} {σ : L2.St} {J H : Hp} {h g : Addr} {i : Nat} {ta : TA} {E : XK} {pre : List PyData → Prop} {post : List PyData → PyData → Prop} {Pa : List PyData → Prop} {P : PyData → Prop} (hd : HasDr M h g) (hs : σ[i]? = some (some (.ref h))) (ha : EvA K M ta σ J H Pa)
    (hp : ∀ ds, Pa ds → pre ds ∧ ∀ d, post ds d → P d) : EvP K M (tCall (spH K pre post) [] E (tCons (tVar i) ta)) σ J H P := fun J1 H1 w t Q q =>
  ⟨.ref h, hs, ha J1 H1 w t _ fun vs ds J2 H2 w2 t2 p a => by
    show spH K pre post ((V.ref h :: vs) ++ []) H2 Q E
    rw [List.append_nil]
    exact ⟨M, h, g, J2, vs, ds, rfl, hd, w2, a, (hp ds p).1, fun v d J3 H3 w3 t3 pd ad => q v d J3 H3 w3 (t2.trans t3) ((hp ds p).2 d pd) ad⟩⟩
def preDraw (ds : List PyData) : Prop := ∃ n, ds = [.int n] ∧ 0 < n ∧ n < 2 ^ 64
def postDraw (ds : List PyData) (d : PyData) : Prop := ∀ n, ds = [.int n] → ∃ i, d = .int i ∧ 0 ≤ i ∧ i < n
def spDr (K : PySem.W.Frag) : Sp := spH K preDraw postDraw
theorem rd_drawH {K : PySem.W.Frag} {vs : List V} {H : Hp} {Q : VK} {E : XK} {c : Int} (hc : 0 ≤ c ∧ c < 2 ^ 60) (h : spDr K vs H Q E) : tDraw K c { nx := fun _ H' => Q .non H', rt := Q } (vs.map some ++ [none]) H := by
  obtain ⟨M, h, g, J, us, ds, rfl, hd, w, a, ⟨n, rfl, n0, n1⟩, q⟩ := h
  obtain ⟨v, rfl, av⟩ := das_one a
  rw [da_int av]
  exact rd_draw hd w n0 n1 hc fun i H' w' t i0 i1 => q _ (.int i) J H' w' t (fun m e => by cases e; exact ⟨i, rfl, i0, i1⟩) (.int i)
theorem spH_len {K : PySem.W.Frag} {pre : List PyData → Prop} {post : List PyData → PyData → Prop} {vs : List V} {H : Hp} {Q : VK} {E : XK} (h : spH K pre post vs H Q E) : ∃ ds, pre ds ∧ vs.length = ds.length + 1 := by
  obtain ⟨M, h, g, J, us, ds, rfl, hd, w, a, p, q⟩ := h
  exact ⟨ds, p, by rw [List.length_cons, das_len a]⟩
/-- a draw below a number that is reckoned -/
theorem ev_draw {K : PySem.W.Frag} {M : Md} {σ : L2.St} {J H : Hp} {h g : Addr} {i : Nat} {te : TE} {E : XK} {n : Int} (hd : HasDr M h g) (hs : σ[i]? = some (some (.ref h))) (he : EvD K M te σ J H (.int n)) (n0 : 0 < n ∧ n < 2 ^ 64) :
    EvP K M (tCall (spDr K) [] E (tCons (tVar i) (tCons te tNil))) σ J H fun d => ∃ i, d = .int i ∧ 0 ≤ i ∧ i < n :=
  ev_callH hd hs (ea_consD he ea_nil) fun ds e => by rw [e]; exact ⟨⟨n, rfl, n0⟩, fun d p => p n rfl⟩
theorem atI_mem {ds : List PyData} {i : Int} (h0 : 0 ≤ i) (h1 : i < ds.length) : ∃ d, atI ds i = some d ∧ d ∈ ds := by
  have hk : i.toNat < ds.length := by omega
  refine ⟨ds[i.toNat], ?_, List.getElem_mem hk⟩
  unfold atI ixN
  rw [if_pos h0, if_pos h1]
  exact List.getElem?_eq_getElem hk
/-- one of some things, a list -/
def prePick (ds : List PyData) : Prop := ∃ xs, ds = [.list xs] ∧ xs ≠ [] ∧ xs.length < 2 ^ 62
def postPick (ds : List PyData) (d : PyData) : Prop := ∀ xs, ds = [.list xs] → d ∈ xs
def spPick (K : PySem.W.Frag) : Sp := spH K prePick postPick
def tPick (K : PySem.W.Frag) : TS := tRet (tOp (rIx K) (tVar 1) (tCall (spDr K) [] E0 (tCons (tVar 0) (tCons (tCB (rLen K) (tCons (tVar 1) tNil)) tNil))))
theorem rd_pick {K : PySem.W.Frag} {vs : List V} {H : Hp} {Q : VK} {E : XK} (h : spPick K vs H Q E) : tPick K { nx := fun _ H' => Q .non H', rt := Q } (vs.map some) H := by
  obtain ⟨M, h, g, J, us, ds, rfl, hd, w, a, ⟨xs, rfl, x0, x1⟩, q⟩ := h
  obtain ⟨v, rfl, av⟩ := das_one a
  have l0 : 0 < xs.length := List.length_pos_iff.mpr x0
  refine s_ret (K := K) (P := (· ∈ xs)) w ?_ fun v d J1 H1 w1 t1 p ad => q v d J1 H1 w1 t1 (fun ys e => by cases e; exact p) ad
  refine ev_op (Px := (· = .list xs)) (Py := fun d => ∃ i, d = .int i ∧ 0 ≤ i ∧ i < (xs.length : Int)) (by walk_at "ev") (ev_draw hd rfl (by walk_at "ev") (by omega)) ?_
  rintro dx dy rfl ⟨i, rfl, i0, i1⟩
  obtain ⟨d, e, m⟩ := atI_mem i0 i1
  intro x y J H w ax ay Q q
  exact od_ixL e x y J H w ax ay Q fun v d' J2 H2 w2 t2 e' a => q v d' J2 H2 w2 t2 (by rw [e']; exact m) a
theorem ev_pick {K : PySem.W.Frag} {M : Md} {σ : L2.St} {J H : Hp} {h g : Addr} {i : Nat} {te : TE} {E : XK} {Pa : PyData → Prop} {P : PyData → Prop} (hd : HasDr M h g) (hs : σ[i]? = some (some (.ref h))) (he : EvP K M te σ J H Pa) (hp : ∀ d, Pa d → ∃ xs, d = .list xs ∧ xs ≠ [] ∧ xs.length < 2 ^ 62 ∧ ∀ x ∈ xs, P x) :
    EvP K M (tCall (spPick K) [] E (tCons (tVar i) (tCons te tNil))) σ J H P :=
  ev_callH hd hs (ea_cons he ea_nil) fun ds ⟨d, r, e, pd, pr⟩ => by
    obtain ⟨xs, rfl, x0, x1, x2⟩ := hp d pd
    rw [e, pr]
    exact ⟨⟨xs, rfl, x0, x1⟩, fun d p => x2 d (p xs rfl)⟩
end DL

/-! What k06 and k07 wanted besides, for every law. -/
namespace DL
open PySem PySem.Spec
open PyProof.Rows
open L2
theorem cutI {xs : List Int} {i j : Int} {a b : Nat} (h1 : i = a) (h2 : j = b) : cutA xs (some i) (some j) = (xs.drop a).take (b - a) := by rw [h1, h2]; exact cutA_nat xs a b
theorem ev_eq {K : PySem.W.Frag} {M : Md} {te : TE} {σ : L2.St} {J H : Hp} {d d' : PyData} (h : EvD K M te σ J H d) (e : d = d') : EvD K M te σ J H d' := by rw [← e]; exact h
theorem et_eq {M : Md} {tt : TT} {σ : L2.St} {J H : Hp} {b b' : Bool} (h : EvT M tt σ J H (· = b)) (e : b = b') : EvT M tt σ J H (· = b') := by rw [← e]; exact h

theorem ev_xf {K : PySem.W.Frag} {M : Md} {σ : L2.St} {J H : Hp} {a dx C : Addr} {i : Nat} {f : Str} {v : V} {d : PyData} (hs : σ[i]? = some (some (.ref a))) (hx : H dx = some (.xd [(f, v)])) (nf : ¬ M.fp dx) (h : Da K J v d) :
    EvD K M (tXf a (.ref C) (some dx) C f (tVar i)) σ J H d := fun J1 H1 w t Q q => ⟨.ref a, hs, rfl, rfl, dx, _, v, rfl, t.keep dx _ nf hx, by simp [List.lookup], q v d J1 H1 w w.tr rfl (t.jj.da h)⟩

/-! ### calls with keywords that stand in the sequence of the parameters -/
theorem fun_kbN {K : PySem.W.Frag} {x qual : Str} {params : Arguments} {body : List Stmt} {scope : Scope} {f : Addr} {fd : FuncData} {ps : List Str} (F : FunD K x qual params body scope [] [] f fd) (n : Nat) (ks : List Str)
    (h : ∀ (kV doc pm : Value) (an : Option Addr) (cdv ct : Value) (us ws : List Value), us.length = n → ws.length = ks.length → bindArgs (PySem.W.fnOf x qual params body scope .none kV doc pm an cdv ct) ⟨us, ks.zip ws⟩ = pure (ps.zip (us ++ ws))) :
    KBn K fd ps n ks (fun us ws => us ++ ws) (fun vs zs => vs ++ zs) := by
  obtain ⟨_, _, _, k1, d1, m1, a1, c1, t1, _, e, _, _, dfl, _⟩ := F.ex
  subst e
  match dfl with
  | .inl ⟨_, none_⟩ => subst none_; exact ⟨fun s us ws _ l1 l2 => .of_eq (h k1 d1 m1 a1 c1 t1 us ws l1 l2), fun r1 r2 => r1.append r2⟩
  | .inr ⟨some_, _⟩ => exact absurd rfl some_
structure CaK (P : Program) (w : World) (K : PySem.W.Frag) (mg : Str → Option Value) (base : Heap) (CX : CXT) (k : Nat) (x : Str) (ps : List Str) (n : Nat) (ks : List Str) (sp : Sp) : Prop where
  has : ∃ f fd, FnOk P w K mg base CX k f fd ps sp ∧ mg x = some (.ref f) ∧ PySem.W.keepIn K (.ref f) = true ∧ KBn K fd ps n ks (fun us ws => us ++ ws) (fun vs zs => vs ++ zs)
theorem xCallK0 {X : Cx} {CX : CXT} {k : Nat} {ps ks : List Str} {sp : Sp} {E : XK} {kws : List Keyword} {p pos : Pos} {x : Str} {tk : TA} (C : CaK X.prog X.w X.K X.mg X.base CX k x ps 0 ks sp) (hr : Room k X.A) (hx : Passes CX X E) (hkw : PK X kws tk) (hg : Gl X x := by rfl) (hdb : (x == ("__debug__" : Str)) = false := by decide)
    (hall : (backToKw pos (keywordEach kws X.env)).all (·.1.isSome) = true := by rfl) (hks : (backToKw pos (keywordEach kws X.env)).filterMap (·.1) = ks := by rfl) (hpl : ((backTo pos (starEach [] X.env)).any (·.1) || (backToKw pos (keywordEach kws X.env)).any (·.1.isNone)) = false := by rfl) :
    PE X (.Call (.Name x p) [] kws pos) (fun σ H Q => tk σ H fun zs H2 => zs.length = ks.length ∧ sp zs H2 Q E) := by
  obtain ⟨f, fd, F, hm, hk, hb⟩ := C.has
  refine ⟨fun pins s σ H Q I h => wpAny_Call_Name_kw (ld_glob I hg hm ?_ hdb)⟩
  refine PySem.W.callWith_KW0 (h₀ := X.base) I.ok.mod.kin hk hall (thn (hkw.run pos pins s σ H _ I h) fun ws s2 ⟨zs, H2, I2, rz, l1, q2⟩ => ⟨I2.kIn, ?_⟩) hpl
  rw [hks]
  exact run_fnN (us := []) (vs := []) F hr hb hx I2 .nil rz rfl l1 q2
theorem ev_callK0 {K : PySem.W.Frag} {M : Md} {σ : L2.St} {J H : Hp} {sp : Sp} {E : XK} {m : Nat} {ta : TA} {ds : List PyData} {P : PyData → Prop} (h : EvA K M ta σ J H (· = ds)) (hm : ds.length = m) (ho : SpD K M sp ds P E) : EvP K M (fun σ H Q => ta σ H fun zs H2 => zs.length = m ∧ sp zs H2 Q E) σ J H P := fun J1 H1 w t Q q =>
  h J1 H1 w t _ fun vs ds' J2 H2 w2 t2 e a => by
    subst e
    exact ⟨by rw [das_len a]; exact hm, ho vs J2 H2 w2 a Q fun v d J3 H3 w3 t3 p a3 => q v d J3 H3 w3 (t2.trans t3) p a3⟩
theorem ev_neg {K : PySem.W.Frag} {M : Md} {σ : L2.St} {J H : Hp} {te : TE} {i : Int} (h : EvD K M te σ J H (.int i)) : EvD K M (tUn (rU fun i => .int (-i)) te) σ J H (.int (-i)) :=
  ev_un h fun dx e x J H w a Q q => by
    subst e
    exact ⟨i, da_int a, q _ _ J H w w.tr rfl (.int _)⟩
theorem ev_ixC {K : PySem.W.Frag} {M : Md} {σ : L2.St} {J H : Hp} {te : TE} {k : Nat} {p : Addr} {ys : List V} {i : Int} {v : V} {d : PyData} (hs : σ[k]? = some (some (.ref p))) (hH : H p = some (.lst ys)) (nf : ¬ M.fp p) (he : EvD K M te σ J H (.int i)) (hv : atI ys i = some v) (ha : ∀ J, Da K J v d) :
    EvD K M (tOp (rIx K) (tVar k) te) σ J H d := fun J1 H1 w t Q q => ⟨.ref p, hs, he J1 H1 w t _ fun x d' J2 H2 w2 t2 e a => by
      subst e
      exact .inl ⟨p, ys, i, v, rfl, da_int a, .of ((t.trans t2).keep p _ nf hH), hv, q v d J2 H2 w2 t2 rfl (ha _)⟩⟩
theorem od_neS {K : PySem.W.Frag} {M : Md} {x y : Str} : OpD K M rNe (.str x) (.str y) (· = .bool (!decide (x = y))) := fun a b J H w ax ay Q q => by
  rw [da_str ax, da_str ay]
  have e : decide (V.str x = V.str y) = decide (x = y) := decide_eq_decide.mpr ⟨fun e => V.str.inj e, fun e => by rw [e]⟩
  refine ⟨rfl, ?_⟩
  rw [e]
  exact q _ _ J H w w.tr rfl (.bl _)
theorem od_eqS {K : PySem.W.Frag} {M : Md} {x y : Str} : OpD K M rEq (.str x) (.str y) (· = .bool (decide (x = y))) := fun a b J H w ax ay Q q => by
  rw [da_str ax, da_str ay]
  have e : decide (V.str x = V.str y) = decide (x = y) := decide_eq_decide.mpr ⟨fun e => V.str.inj e, fun e => by rw [e]⟩
  refine ⟨rfl, ?_⟩
  rw [e]
  exact q _ _ J H w w.tr rfl (.bl _)

theorem any_ints (xs : List Int) (c : Int) : ((oD xs).any fun z => PyData.eqv z (.int c)) = decide (c ∈ xs) := by
  induction xs with
  | nil => rfl
  | cons x xs ih =>
    show (PyData.eqv (.int x) (.int c) || (oD xs).any fun z => PyData.eqv z (.int c)) = _
    rw [ih, eqv_int, Bool.eq_iff_iff]
    simp only [Bool.or_eq_true, decide_eq_true_eq, List.mem_cons]
    exact ⟨fun h => h.imp Eq.symm id, fun h => h.imp Eq.symm id⟩
theorem atI_nat {α : Type} {xs : List α} {k : Nat} {x : α} (h : xs[k]? = some x) : atI xs (k : Int) = some x := by
  obtain ⟨hk, _⟩ := List.getElem?_eq_some_iff.mp h
  unfold atI ixN
  rw [if_pos (by omega), if_pos (by omega)]
  show xs[((k : Nat) : Int).toNat]? = some x
  rw [Int.toNat_natCast]
  exact h
theorem atI_m1 {α : Type} {xs : List α} {k : Nat} {x : α} (h : xs[k]? = some x) (hl : xs.length = k + 1) : atI xs (-1) = some x := by
  unfold atI ixN
  rw [if_neg (by omega), if_pos (by omega), hl, show (-1 + ((k + 1 : Nat) : Int)).toNat = k by omega]
  exact h
theorem oD_get {xs : List Int} {k : Nat} {x : Int} (h : xs[k]? = some x) : (oD xs)[k]? = some (.int x) := by unfold oD; rw [List.getElem?_map, h]; rfl

theorem take_snoc {α : Type} {xs : List α} {i : Nat} {x : α} (h : xs[i]? = some x) : xs.take (i + 1) = xs.take i ++ [x] := by rw [List.take_add_one, h]; rfl

/-! ### rules: enumerate, a list many times, a changed row, what is read of what is drawn -/
def enumD (ds : List PyData) : List PyData := (List.range ds.length).map fun i => .tuple [.int (i : Nat), ds.getD i .none]
theorem enumD_len (ds : List PyData) : (enumD ds).length = ds.length := by unfold enumD; simp
theorem enumD_at {ds : List PyData} {i : Nat} {d : PyData} (h : (enumD ds)[i]? = some d) : ∃ x, ds[i]? = some x ∧ d = .tuple [.int (i : Nat), x] := by
  unfold enumD at h
  rw [List.getElem?_map] at h
  by_cases hi : i < ds.length
  · rw [List.getElem?_range hi] at h
    refine ⟨ds[i], List.getElem?_eq_getElem hi, ?_⟩
    rw [← Option.some.inj h]
    show PyData.tuple [PyData.int (i : Nat), ds.getD i PyData.none] = _
    rw [List.getD_eq_getElem?_getD, List.getElem?_eq_getElem hi]
    rfl
  · rw [List.getElem?_eq_none (by simp; omega)] at h
    cases h
section
variable {K : PySem.W.Frag} {M : Md} {σ : L2.St} {J H : Hp} {ta tb tc te : TE} {E : XK} {ds : List PyData}
theorem ew_enum (h : EvD K M te σ J H (.list ds)) : EvW K M (iEnum K (tCons te tNil)) σ J H (· = enumD ds) := fun J1 H1 w t R q =>
  h J1 H1 w t _ fun v d J2 H2 w2 t2 e a => by
    subst e
    obtain ⟨p, xs, rfl, hl, hd⟩ := da_lst a
    refine ⟨p, xs, rfl, .of (w2.jh _ _ hl), q _ _ J2 H2 w2 t2 rfl ⟨fun i G hi s => ?_, fun G s => ⟨xs, .of (s _ _ hl), by rw [das_len hd, enumD_len]; exact Nat.le_refl _⟩, fun i G x G' d hd' s y => ?_⟩⟩
    · rw [enumD_len] at hi
      have hi2 : i < xs.length := by rw [das_len hd]; exact hi
      exact ⟨xs, xs[i], .of (s _ _ hl), List.getElem?_eq_getElem hi2⟩
    · obtain ⟨T, z, ev, hT, eG, y⟩ := y
      obtain ⟨d2, e2, a2⟩ := das_at hd (y xs (.of (s _ _ hl)))
      obtain ⟨d3, e3, rfl⟩ := enumD_at hd'
      rw [e2] at e3
      cases e3
      exact .inr ⟨T, _, _, ev, hT, eG, rfl, .cons (.int _) (.cons a2 .nil)⟩
theorem od_rep {n : Nat} (h1 : n < 2 ^ 60) (h2 : ds.length * n ≤ sizeLine) : OpD K M rRep (.list ds) (.int (n : Int)) (· = .list (List.replicate n ds).flatten) := fun x y J H w ax ay Q q => by
  obtain ⟨a, xs, rfl, hl, hd⟩ := da_lst ax
  have en : ((n : Nat) : Int).toNat = n := Int.toNat_natCast n
  refine ⟨a, n, xs, rfl, da_int ay, w.jh _ _ hl, by omega, by omega, by rw [en, das_len hd]; exact h2, fun p hp => ?_⟩
  rw [en]
  have t := w.new (o := .lst (List.replicate n xs).flatten) hp
  refine q _ _ _ _ (t.wf w) t rfl (.lst upd_same (t.jj.das ?_))
  have key : ∀ m : Nat, Das K J (List.replicate m xs).flatten (List.replicate m ds).flatten := by
    intro m
    induction m with
    | zero => exact .nil
    | succ m ih => rw [List.replicate_succ, List.replicate_succ, List.flatten_cons, List.flatten_cons]; exact das_app hd ih
  exact key n

end

theorem OpD.mono {K : PySem.W.Frag} {M : Md} {r : R2} {dx dy : PyData} {P P' : PyData → Prop} (h : OpD K M r dx dy P) (k : ∀ d, P d → P' d) : OpD K M r dx dy P' := fun x y J H w ax ay Q q => h x y J H w ax ay Q fun v d J2 H2 w2 t2 p a => q v d J2 H2 w2 t2 (k d p) a
theorem exTl_pass : Passes2 exTl := fun self => ⟨by rfl, by rfl⟩
/-- an own class over own ones over Exception, off the heap: its parts, put together again -/
theorem ownB_ok {K : PySem.W.Frag} {C : Addr} {tl : List Value} {nw : String} (told : ownB K C tl nw = true) : ∃ nm q N bs bm sn sub ab col dd k0 k1 k2 k3 k5, K.lookup C = some (excClassObj nm q C N bs bm true sn sub ab col dd k0 k1 k2 k3 k5 nw) ∧ endsIn tl bm = true := by
  unfold ownB at told
  split at told
  · rename_i at_
    obtain ⟨p1, r1⟩ := He.ba told
    obtain ⟨p2, r2⟩ := He.ba r1
    obtain ⟨p3, r3⟩ := He.ba r2
    obtain ⟨p4, r4⟩ := He.ba r3
    obtain ⟨p5, r5⟩ := He.ba r4
    have e1 := of_decide_eq_true p1
    have e2 := of_decide_eq_true p2
    have e3 := of_decide_eq_true p3
    have e5 : _ = false := Bool.not_eq_eq_eq_not.mp p5
    subst e1 e2 e3 p4 e5
    exact ⟨_, _, _, _, _, _, _, _, _, _, _, _, _, _, _, at_, r5⟩
  · exact nomatch told
/-- over LookupError, KeyError among them or not -/
theorem lkTl_pass : Passes2 lkTl := fun self => ⟨by rfl, by rfl⟩
/-- all that Er wants of the class x that keeps f: tl its built-in ones, nw its __new__ -/
theorem erG_own {K : PySem.W.Frag} {tl : List Value} {nw : String} {x f : Str} (h : erG K tl nw x f = true) : OwnE K (He.ga K x) tl nw := by
  obtain ⟨h1, h⟩ := He.ba h
  obtain ⟨h2, h⟩ := He.ba h
  obtain ⟨h3, h⟩ := He.ba h
  obtain ⟨h4, h⟩ := He.ba h
  obtain ⟨h5, h⟩ := He.ba h
  exact ⟨ownB_ok h1, He.eqO_ok h2, of_decide_eq_true h3, of_decide_eq_true h4, h5⟩
theorem erB_own {K : PySem.W.Frag} {x f : Str} (h : erB K x f = true) : OwnE K (He.ga K x) exTl "Exception.__new__" := erG_own h
theorem erK_own {K : PySem.W.Frag} {x f : Str} (h : erK K x f = true) : OwnE K (He.ga K x) lkTl "LookupError.__new__" := erG_own h
section
variable {P : Program} {w : World} {K : PySem.W.Frag} {mg : Str → Option Value} {base h : Heap} {x f : Str} {fd : FuncData} {ps : List Str}
theorem erG_of {tl : List Value} {nw B ini : String} (FB : ExcBaseFacts B nw ini tl) (nB : B ≠ "KeyError") (c : erG K tl nw x f = true) (X : K.In h) (G : h.Ns mainGlobals mg) (F : FnOk P w K mg base CX0 1 (He.ma K (He.ga K x) "__init__") fd ps (spIni K (He.ga K x) f)) (hb : Binds K fd ps []) : Er P w K mg base x (He.ga K x) f := by
  have T := erG_own c
  obtain ⟨h1, c⟩ := He.ba c
  obtain ⟨h2, c⟩ := He.ba c
  obtain ⟨h3, c⟩ := He.ba c
  obtain ⟨h4, c⟩ := He.ba c
  obtain ⟨h5, c⟩ := He.ba c
  obtain ⟨h6, c⟩ := He.ba c
  obtain ⟨h7, c⟩ := He.ba c
  obtain ⟨h8, c⟩ := He.ba c
  obtain ⟨h9, c⟩ := He.ba c
  exact ⟨⟨tl, nw, B, ini, _, fd, ps, FB, nB, T, He.eqO_ok h6, of_decide_eq_true h7, F, hb⟩, PySem.W.mg_of X G (He.eqO_ok c), xfB_ok h8, He.eqO_ok h9⟩
theorem er_of (c : erB K x f = true) (X : K.In h) (G : h.Ns mainGlobals mg) (F : FnOk P w K mg base CX0 1 (He.ma K (He.ga K x) "__init__") fd ps (spIni K (He.ga K x) f)) (hb : Binds K fd ps []) : Er P w K mg base x (He.ga K x) f := erG_of PySem.F.excBase_Exception (by decide) c X G F hb
theorem erK_of (c : erK K x f = true) (X : K.In h) (G : h.Ns mainGlobals mg) (F : FnOk P w K mg base CX0 1 (He.ma K (He.ga K x) "__init__") fd ps (spIni K (He.ga K x) f)) (hb : Binds K fd ps []) : Er P w K mg base x (He.ga K x) f := erG_of PySem.F.excBase_LookupError (by decide) c X G F hb
end
end DL

/-! zip of a tuple and a list: the pairs that it makes, as data. -/
namespace DL
open PySem PySem.Spec
open PyProof.Rows L2
theorem neN {x y : Nat} (h : x < y ∨ y < x) : (show Addr from x) ≠ (show Addr from y) := fun e => by
  have e' : x = y := e
  omega
theorem no2 {x y z : Nat} (h : x < y ∨ y < x) (g : x < z ∨ z < x) : (show Addr from x) ∉ [(show Addr from y), (show Addr from z)] := fun m => by
  rcases List.mem_cons.mp m with e | m
  · exact neN h e
  · exact neN g (List.mem_singleton.mp m)
theorem in5 {n c : Addr} (h : c ∈ [n + 4, n + 2, n + 3, n, n + 1]) : c = n + 4 ∨ c = n + 2 ∨ c = n + 3 ∨ c = n ∨ c = n + 1 := by simpa using h
/-- the cells of such a zip, told by the place of the first one -/
theorem apart5 (n a b : Nat) (ha : a < n) (hb : b < n) : ZipSep2 (n + 4) (n + 2) (n + 3) n (n + 1) [n, a] [n + 1, b] where
  TIz := neN (by omega)
  TOz := neN (by omega)
  TITO := neN (by omega)
  TIi1 := neN (by omega)
  mem1 := List.mem_cons_self
  zf1 := no2 (by omega) (by omega)
  Tf1 := no2 (by omega) (by omega)
  TIi2 := neN (by omega)
  mem2 := List.mem_cons_self
  zf2 := no2 (by omega) (by omega)
  Tf2 := no2 (by omega) (by omega)
  sep1_2 := no2 (by omega) (by omega)
  sep2_1 := no2 (by omega) (by omega)
/-- five objects behind the heap, as zip lays them -/
def zq1 (h : Heap) (a : Addr) : Heap := h.push ⟨.type "tuple_iterator", none, .fields #[.ref a, .int 0 0], #[]⟩
def zq2 (h : Heap) (a b : Addr) : Heap := (zq1 h a).push ⟨.type "list_iterator", none, .fields #[.ref b, .int 0 0], #[]⟩
def zq3 (h : Heap) (a b : Addr) : Heap := (zq2 h a b).push ⟨.type "tuple", none, .seq #[.ref h.objs.size, .ref (zq1 h a).objs.size], #[]⟩
def zq4 (h : Heap) (a b : Addr) : Heap := (zq3 h a b).push ⟨.type "tuple", none, .seq #[.none, .none], #[]⟩
def zq5 (h : Heap) (a b : Addr) : Heap := (zq4 h a b).push ⟨.type "zip", none, .fields #[.none, .bool false, .bool false, .ref (zq2 h a b).objs.size, .ref (zq3 h a b).objs.size], #[]⟩
theorem zq_new (a b : Addr) (us ws : Array Value) : Meets (Builtin.«zip.__new__» ⟨[.type "zip", .ref a, .ref b], []⟩) (fun _ R s =>
    s.heap.IsTuple a us ∧ s.heap.IsList b ws ∧ R (.ok (.ret (.ref (zq4 s.heap a b).objs.size))) { s with heap := zq5 s.heap a b }) :=
  .of_wp fun prog w A R s told => by
    obtain ⟨hp, gs, dr, tk, os⟩ := s
    obtain ⟨ta, lb, r⟩ := told
    have hsub := sub_zip
    have e1 : Heap.IsTuple (Shared.heap ⟨hp, gs, dr, tk, os⟩) a us := ta
    have e2 : Heap.IsList (Shared.heap ⟨hp.push { cls := .type "tuple_iterator", data := .fields #[.ref a, .int 0 0] }, gs, dr, tk, os⟩) b ws := Heap.IsList.push lb _
    wp_walk using wpAny_pyIter_tuple e1, wpAny_pyIter_list e2
    exact ⟨_, rfl, r⟩
theorem call_zq {prog : Program} {w : World} {A : Around} {E : Value → Shared → Prop} {s : Shared} {a b : Addr} {us ws : Array Value} {Q : Value → Shared → Prop} (ta : s.heap.IsTuple a us) (lb : s.heap.IsList b ws)
    (q : ∀ g n, n = s.heap.objs.size → IsZip g (n + 4) (n + 2) (n + 3) .none → IsTupOf2 g (n + 2) (.ref n) (.ref (n + 1)) → IsTupOf2 g (n + 3) .none .none → g.IsTupleIter n a 0 → g.IsListIter (n + 1) b 0 →
      (∀ c o, s.heap.get? c = some o → g.get? c = some o) → Q (.ref (n + 4)) { s with heap := g }) : wpAny (model prog w) A (call (.type "zip") [.ref a, .ref b]) Q E s := by
  refine callType_new F.called_zip (by decide) (F.typeCall_zip_2 _ _) (F.newCall_zip_2 _ _) (fun o => F.args_object_init_3 o _ _) F.entry_zip_new (zq_new a b us ws) ⟨ta, lb, ?_⟩
  generalize hn : s.heap.objs.size = n at q
  have n1 : (zq1 s.heap a).objs.size = n + 1 := by rw [← hn]; exact Heap.size_push ..
  have n2 : (zq2 s.heap a b).objs.size = n + 2 := by unfold zq2; rw [Heap.size_push, n1]
  have n3 : (zq3 s.heap a b).objs.size = n + 3 := by unfold zq3; rw [Heap.size_push, n2]
  have n4 : (zq4 s.heap a b).objs.size = n + 4 := by unfold zq4; rw [Heap.size_push, n3]
  have k0 : ∀ c o, s.heap.get? c = some o → (zq1 s.heap a).get? c = some o := fun c o e => Heap.get?_push_of_some _ e
  have k1 : ∀ c o, (zq1 s.heap a).get? c = some o → (zq2 s.heap a b).get? c = some o := fun c o e => Heap.get?_push_of_some _ e
  have k2 : ∀ c o, (zq2 s.heap a b).get? c = some o → (zq3 s.heap a b).get? c = some o := fun c o e => Heap.get?_push_of_some _ e
  have k3 : ∀ c o, (zq3 s.heap a b).get? c = some o → (zq4 s.heap a b).get? c = some o := fun c o e => Heap.get?_push_of_some _ e
  have k4 : ∀ c o, (zq4 s.heap a b).get? c = some o → (zq5 s.heap a b).get? c = some o := fun c o e => Heap.get?_push_of_some _ e
  have o0 : (zq1 s.heap a).get? n = some ⟨.type "tuple_iterator", none, .fields #[.ref a, .int 0 0], #[]⟩ := by rw [← hn]; exact Heap.get?_push_size _ rfl
  have o1 : (zq2 s.heap a b).get? (n + 1) = some ⟨.type "list_iterator", none, .fields #[.ref b, .int 0 0], #[]⟩ := by rw [← n1]; exact Heap.get?_push_size _ rfl
  have o2 : (zq3 s.heap a b).get? (n + 2) = some ⟨.type "tuple", none, .seq #[.ref n, .ref (n + 1)], #[]⟩ := by
    have e := Heap.get?_push_size (zq2 s.heap a b) (o := ⟨.type "tuple", none, .seq #[.ref s.heap.objs.size, .ref (zq1 s.heap a).objs.size], #[]⟩) rfl
    rw [n2, n1, hn] at e
    unfold zq3
    rw [n1, hn]
    exact e
  have o3 : (zq4 s.heap a b).get? (n + 3) = some ⟨.type "tuple", none, .seq #[.none, .none], #[]⟩ := by rw [← n3]; exact Heap.get?_push_size _ rfl
  have o4 : (zq5 s.heap a b).get? (n + 4) = some ⟨.type "zip", none, .fields #[.none, .bool false, .bool false, .ref (n + 2), .ref (n + 3)], #[]⟩ := by
    have e := Heap.get?_push_size (zq4 s.heap a b) (o := ⟨.type "zip", none, .fields #[.none, .bool false, .bool false, .ref (zq2 s.heap a b).objs.size, .ref (zq3 s.heap a b).objs.size], #[]⟩) rfl
    rw [n4, n2, n3] at e
    unfold zq5
    rw [n2, n3]
    exact e
  show _ ∧ _
  rw [n4]
  exact ⟨⟨_, o4, rfl⟩, q _ n rfl o4 (k4 _ _ (k3 _ _ o2)) (k4 _ _ o3) ⟨_, k4 _ _ (k3 _ _ (k2 _ _ (k1 _ _ o0))), rfl, rfl⟩ ⟨_, k4 _ _ (k3 _ _ (k2 _ _ o1)), rfl, rfl⟩ fun c o e => k4 _ _ (k3 _ _ (k2 _ _ (k1 _ _ (k0 _ _ e))))⟩
/-- the pairs of a tuple's and a list's things -/
def Itm (K : PySem.W.Frag) (a b : Addr) : L2.It where
  go := fun i H => ∃ xs ys x y, (SqT K H a xs ∧ xs[i]? = some x) ∧ (SqL K H b ys ∧ ys[i]? = some y)
  yld := fun i H v H' => ∃ T x y, (v = V.ref T ∧ H T = none ∧ H' = upd H T (.tup [x, y])) ∧ (∀ xs, SqT K H a xs → xs[i]? = some x) ∧ (∀ ys, SqL K H b ys → ys[i]? = some y)
  stop := fun i H => ∃ xs ys : List V, (SqT K H a xs ∧ SqL K H b ys) ∧ i ≤ xs.length ∧ i ≤ ys.length ∧ (i = xs.length ∨ i = ys.length)
theorem turn_m {P : Program} {w : World} {K : PySem.W.Frag} {els : List Expr} {kk : Nat} {tp : Pos} {a b n : Nat} (ha : a < n) (hb : b < n) :
    Turn P w K (.Tuple els kk tp) (Itm K a b) [n + 4, n + 2, n + 3, n, n + 1] (n + 4) (fun i h => (IsZip h (n + 4) (n + 2) (n + 3) .none ∧ IsTupOf2 h (n + 2) (.ref n) (.ref (n + 1))) ∧ (∃ x y, IsTupOf2 h (n + 3) x y) ∧ h.IsTupleIter n a i ∧ h.IsListIter (n + 1) b i) where
  mem := List.mem_cons_self
  obj := fun i h ⟨⟨z, t⟩, ⟨x, y, u⟩, ⟨o1, e1, _, d1⟩, ⟨o2, e2, _, d2⟩⟩ c hc => by
    rcases in5 hc with rfl | rfl | rfl | rfl | rfl
    · exact ⟨_, z, nofun⟩
    · exact ⟨_, t, nofun⟩
    · exact ⟨_, u, nofun⟩
    · exact ⟨o1, e1, fun v e => by rw [d1] at e; cases e⟩
    · exact ⟨o2, e2, fun v e => by rw [d2] at e; cases e⟩
  keep := fun i h g ⟨⟨z, t⟩, ⟨x, y, u⟩, i1, i2⟩ k => ⟨⟨k _ (by simp) _ z, k _ (by simp) _ t⟩, ⟨x, y, k _ (by simp) _ u⟩, i1.at fun o e => k n (by simp) o e, i2.at fun o e => k (n + 1) (by simp) o e⟩
  item := by
    rintro X rfl rfl rfl calm i pins s σ H E I free ⟨⟨z, t⟩, ⟨x0, y0, u⟩, i1, i2⟩ ⟨xs, ys, x, y, ⟨qx, ex⟩, qy, ey⟩
    obtain ⟨us, ru, pu, _⟩ := I.tuple qx
    obtain ⟨ws, rw_, pw, _⟩ := I.list qy
    obtain ⟨v1, g1, r1⟩ := ru.get ex
    obtain ⟨v2, g2, r2⟩ := rw_.get ey
    have hd := I.ok.hd calm
    have lz : n + 4 < s.heap.objs.size := Heap.lt_size z
    have S := apart5 n a b ha hb
    refine wpAny_pyNext_zipD2_item S (Draws.tuple (A := X.A.in1) hd n a (neN (by omega)) us.toArray) (Draws.list (A := X.A.in1) hd (n + 1) b (neN (by omega)) ws.toArray) z t u ⟨i1, pu⟩ ⟨i2, pw.isList⟩
      (by obtain ⟨l, _⟩ := List.getElem?_eq_some_iff.mp g1; simpa using l) (by obtain ⟨l, _⟩ := List.getElem?_eq_some_iff.mp g2; simpa using l) fun w1 w2 g tk p1 p2 z' u' s1 s2 nt _ kp => ?_
    have q1 : w1 = v1 := by have e : us[i]? = some w1 := by simpa using p1
                            rw [g1] at e; exact (Option.some.inj e).symm
    have q2 : w2 = v2 := by have e : ws[i]? = some w2 := by simpa using p2
                            rw [g2] at e; exact (Option.some.inj e).symm
    subst q1 q2
    refine ⟨_, rfl, wpAny_letOwnedTupleGo_zip (s := { s with heap := g, toks := tk }) z' fun g2' z2 sb => ?_⟩
    have far : ∀ {c}, c ∉ [n + 4, n + 2, n + 3, n, n + 1] → c ≠ n + 4 ∧ c ≠ n + 3 ∧ c ≠ n ∧ c ≠ n + 1 := fun {c} h => ⟨fun e => h (by simp [e]), fun e => h (by simp [e]), fun e => h (by simp [e]), fun e => h (by simp [e])⟩
    have all : ∀ c o, c ∉ [n + 4, n + 2, n + 3, n, n + 1] → s.heap.get? c = some o → g2'.get? c = some o := fun c o h e => by
      obtain ⟨f1, f2, f3, f4⟩ := far h
      exact (sb.2 c f1).trans (kp c o f1 f2 f3 f4 e)
    have at_ : g2'.get? s.heap.objs.size = some { cls := .type "tuple", data := .seq #[w1, w2] } := (sb.2 _ (Nat.ne_of_gt lz)).trans nt
    have ob : ObjOk X.prog X.w (upd H s.heap.objs.size (.tup [x, y])) g2' s.heap.objs.size (.tup [x, y]) := ⟨(by decide : 2 ≤ sizeLine), [w1, w2], .cons r1 (.cons r2 .nil), _, at_, rfl, _, rfl⟩
    refine ⟨.ref s.heap.objs.size, _, I.turnedNew (t' := tk) (ch := [n + 4, n + 2, n + 3, n, n + 1]) all free (Nat.le_refl _) ob, rfl, ⟨_, x, y, ⟨rfl, I.hok.fresh (Nat.le_refl _), rfl⟩, fun l hl => by rw [I.tuple_inj hl qx]; exact ex, fun l hl => by rw [I.list_inj hl qy]; exact ey⟩,
      ⟨⟨z2, (sb.2 _ (neN (by omega))).trans (kp _ _ (neN (by omega)) (neN (by omega)) (neN (by omega)) (neN (by omega)) t)⟩, ⟨w1, w2, (sb.2 _ (neN (by omega))).trans u'⟩, s1.1.at fun o e => (sb.2 n (neN (by omega))).trans e, s2.1.at fun o e => (sb.2 (n + 1) (neN (by omega))).trans e⟩, fun c hc => ?_⟩
    have lc : c < s.heap.objs.size := by
      refine Nat.lt_of_le_of_lt ?_ lz
      rcases in5 hc with e | e | e | e | e
      · rw [e]; exact Nat.le_refl _
      · rw [e]; exact Nat.add_le_add_left (by decide) n
      · rw [e]; exact Nat.add_le_add_left (by decide) n
      · rw [e]; exact Nat.le_add_right n 4
      · rw [e]; exact Nat.add_le_add_left (by decide) n
    rw [upd_ne (Nat.ne_of_lt lc)]
    exact (free c hc).1
  done := by
    rintro X rfl rfl rfl calm i pins s σ H E I free ⟨⟨z, t⟩, ⟨x0, y0, u⟩, i1, i2⟩ ⟨xs, ys, ⟨qx, qy⟩, last⟩
    obtain ⟨us, ru, pu, _⟩ := I.tuple qx
    obtain ⟨ws, rw_, pw, _⟩ := I.list qy
    have hd := I.ok.hd calm
    have l1 := ru.length
    have l2 := rw_.length
    exact wpAny_pyNext_zipD2_end (apart5 n a b ha hb) (Draws.tuple (A := X.A.in1) hd n a (neN (by omega)) us.toArray) (Draws.list (A := X.A.in1) hd (n + 1) b (neN (by omega)) ws.toArray) z t u ⟨i1, pu⟩ ⟨i2, pw.isList⟩
      (by rw [List.size_toArray, ← l1]; exact last.1) (by rw [List.size_toArray, ← l2]; exact last.2.1) (by rw [List.size_toArray, List.size_toArray, ← l1, ← l2]; exact last.2.2)
      fun g tk kp => ⟨rfl, I.turnedL (t' := tk) (ch := [n + 4, n + 2, n + 3, n, n + 1]) (fun c o h e => kp c o (fun e => h (by simp [e])) (fun e => h (by simp [e])) (fun e => h (by simp [e])) (fun e => h (by simp [e])) e) free⟩
  self := fun A i s Q E st q => wpAny_pyIter_zip st.1.1 q
def iZm (K : PySem.W.Frag) (ta : TA) : TI := fun σ H R => ta σ H fun vs G => ∃ a b xs ys, (vs = [V.ref a, V.ref b] ∧ SqT K G a xs) ∧ SqL K G b ys ∧ R (Itm K a b) G
/-- zip of a tuple and a list is walked -/
theorem pi_zm {X : Cx} {x y : Expr} {ta : TA} {p pos tp : Pos} {els : List Expr} {kk : Nat} (hg : Gl X "zip") (hm : X.mg "zip" = none) (ha : PA X [x, y] ta) (hs : starEach [x, y] X.env = (false, eval x X.env) :: starEach [y] X.env := by rfl)
    (hp : (backTo pos (starEach [y] X.env)).any (·.1) = false := by rfl) : PI X (.Tuple els kk tp) (.Call (.Name "zip" p) [x, y] [] pos) (iZm X.K ta) := by
  refine ⟨fun pins s σ H R I h => ?_⟩
  have hr := ha.run pos pins s σ H _ I h
  refine Call_ (ld_blt I hg hm PyProof.Rows.boot_zip (PyProof.Rows.callWith_type1 (thn hr fun us s1 ⟨vs, G, I1, r1, told⟩ => ?_) hs hp))
  obtain ⟨a, b, xs, ys, ⟨e, qx⟩, qy, r⟩ := told
  subst e
  cases r1 with
  | cons ra rs =>
    cases rs with
    | cons rb rs =>
    cases rs
    cases ra
    cases rb
    obtain ⟨ts, _, pt, _⟩ := I1.tuple qx
    obtain ⟨ls, _, pl, _⟩ := I1.list qy
    obtain ⟨o1, e1, _⟩ := id pt
    refine call_zq (show s1.heap.IsTuple a ts.toArray from pt) pl.isList fun g n hn z t u i1 i2 kp => wpAny_pyIter_zip z ?_
    have J : Inv X pins σ G { s1 with heap := g } := I1.kept (t' := s1.toks) kp
    refine ⟨n + 4, [n + 4, n + 2, n + 3, n, n + 1], _, _, G, rfl, J, turn_m (by rw [hn]; exact Heap.lt_size e1) (by rw [hn]; exact pl.lt), ⟨⟨z, t⟩, ⟨_, _, u⟩, i1, i2⟩, fun c hc => ?_, r⟩
    have le : s1.heap.objs.size ≤ c := by
      rw [← hn]
      rcases in5 hc with e | e | e | e | e
      · rw [e]; exact Nat.le_add_right n 4
      · rw [e]; exact Nat.le_add_right n 2
      · rw [e]; exact Nat.le_add_right n 3
      · rw [e]; exact Nat.le_refl _
      · rw [e]; exact Nat.le_add_right n 1
    exact I1.fpOk le (I1.hok.fresh le)
/-- as data -/
def zipD (ds es : List PyData) : List PyData := (ds.zip es).map fun p => .tuple [p.1, p.2]
theorem zipD_at {ds es : List PyData} {i : Nat} {d : PyData} (h : (zipD ds es)[i]? = some d) : ∃ x y, ds[i]? = some x ∧ es[i]? = some y ∧ d = .tuple [x, y] := by
  unfold zipD at h
  rw [List.getElem?_map] at h
  cases e : (ds.zip es)[i]? with
  | none => rw [e] at h; cases h
  | some p =>
    rw [e] at h
    obtain ⟨h1, h2⟩ := List.getElem?_zip_eq_some.mp e
    exact ⟨p.1, p.2, h1, h2, (Option.some.inj h).symm⟩
theorem zipD_len {ds es : List PyData} (h : ds.length ≤ es.length) : (zipD ds es).length = ds.length := by unfold zipD; simp; omega
section
variable {K : PySem.W.Frag} {M : Md} {σ : L2.St} {J H : Hp} {ta tb : TE} {ds es : List PyData}
theorem ew_zm (h : EvD K M ta σ J H (.tuple ds)) (g : EvD K M tb σ J H (.list es)) (hl : ds.length ≤ es.length) : EvW K M (iZm K (tCons ta (tCons tb tNil))) σ J H (· = zipD ds es) := fun J1 H1 w t R q =>
  h J1 H1 w t _ fun v d J2 H2 w2 t2 e a => g J2 H2 w2 (t.trans t2) _ fun v' d' J3 H3 w3 t3 e' a' => by
    subst e
    subst e'
    obtain ⟨x, xs, rfl, lx, dx⟩ := da_tup (t3.jj.da a)
    obtain ⟨y, ys, rfl, ly, dy⟩ := da_lst a'
    have hx := das_len dx
    have hy := das_len dy
    refine ⟨x, y, xs, ys, ⟨rfl, w3.jh.t lx⟩, .of (w3.jh _ _ ly), q _ _ J3 H3 w3 (t2.trans t3) rfl ⟨fun i G hi s => ?_, fun G s => ?_, fun i G z G' d hd s yl => ?_⟩⟩
    · rw [zipD_len hl] at hi
      have i1 : i < xs.length := by omega
      have i2 : i < ys.length := by omega
      exact ⟨xs, ys, xs[i], ys[i], ⟨s.t lx, List.getElem?_eq_getElem i1⟩, .of (s _ _ ly), List.getElem?_eq_getElem i2⟩
    · rw [zipD_len hl]
      exact ⟨xs, ys, ⟨s.t lx, .of (s _ _ ly)⟩, by omega, by omega, by omega⟩
    · obtain ⟨T, u, u', ⟨rfl, hT, rfl⟩, y1, y2⟩ := yl
      obtain ⟨p, p', e1, e2, rfl⟩ := zipD_at hd
      obtain ⟨c, g1, a1⟩ := das_at dx (y1 xs (s.t lx))
      obtain ⟨c', g2, a2⟩ := das_at dy (y2 ys (.of (s _ _ ly)))
      rw [e1] at g1
      rw [e2] at g2
      cases g1
      cases g2
      exact .inr ⟨T, _, _, rfl, hT, rfl, rfl, .cons a1 (.cons a2 .nil)⟩
theorem ew_zt (h : EvD K M ta σ J H (.tuple ds)) (g : EvD K M tb σ J H (.tuple es)) (hl : ds.length ≤ es.length) : EvW K M (RZ.iZipA K (tCons ta (tCons tb tNil))) σ J H (· = zipD ds es) := fun J1 H1 w t R q =>
  h J1 H1 w t _ fun v d J2 H2 w2 t2 e a => g J2 H2 w2 (t.trans t2) _ fun v' d' J3 H3 w3 t3 e' a' => by
    subst e
    subst e'
    obtain ⟨x, xs, rfl, lx, dx⟩ := da_tup (t3.jj.da a)
    obtain ⟨y, ys, rfl, ly, dy⟩ := da_tup a'
    have hx := das_len dx
    have hy := das_len dy
    refine ⟨x, y, xs, ys, rfl, .inr ⟨w3.jh.t lx, w3.jh.t ly, q _ _ J3 H3 w3 (t2.trans t3) rfl ⟨fun i G hi s => ?_, fun G s => ?_, fun i G z G' d hd s yl => ?_⟩⟩⟩
    · rw [zipD_len hl] at hi
      have i1 : i < xs.length := by omega
      have i2 : i < ys.length := by omega
      exact ⟨xs, ys, xs[i], ys[i], s.t lx, s.t ly, List.getElem?_eq_getElem i1, List.getElem?_eq_getElem i2⟩
    · rw [zipD_len hl]
      exact ⟨xs, ys, s.t lx, s.t ly, by omega⟩
    · obtain ⟨T, u, u', rfl, hT, rfl, y1, y2⟩ := yl
      obtain ⟨p, p', e1, e2, rfl⟩ := zipD_at hd
      obtain ⟨c, g1, a1⟩ := das_at dx (y1 xs (s.t lx))
      obtain ⟨c', g2, a2⟩ := das_at dy (y2 ys (s.t ly))
      rw [e1] at g1
      rw [e2] at g2
      cases g1
      cases g2
      exact .inr ⟨T, _, _, rfl, hT, rfl, rfl, .cons a1 (.cons a2 .nil)⟩
end
end DL

/-! The draws of other laws: int() stands elsewhere, and a part of the script is taken. -/
namespace DL
open PySem PySem.Spec
open PyProof.Rows L2
local macro_rules | `(tactic| walk_at "rep") => `(tactic| first | assumption | exact Da.int _ | exact Da.bl _ | exact Da.str _ | exact Da.non | exact Sub.da (by assumption) (by assumption) | exact Sub.da (Tr.jj (by assumption)) (by assumption))
local macro_rules | `(tactic| walk_at "arith") => `(tactic| first | assumption | omega | decide | exact cmul_small (by omega) (by omega) | exact cdiv_small (by omega) (by omega))
local macro_rules | `(tactic| walk_at "shp") => `(tactic| first | exact sh_int _ | exact sh_tup _ | exact sh_list _ | assumption)
local macro_rules | `(tactic| walk_at "od") => `(tactic| first
  | with_reducible exact od_plus
  | with_reducible exact od_sub
  | ((with_reducible refine' od_mul ?h1); walk_at "arith")
  | ((with_reducible refine' od_mod ?h1); walk_at "arith")
  | ((with_reducible refine' od_fdiv ?h1); walk_at "arith")
  | ((with_reducible refine' od_pow ?h1); exact ⟨by decide, by decide, by decide⟩)
  | with_reducible exact od_lt | with_reducible exact od_le | with_reducible exact od_gt | with_reducible exact od_ge
  | ((with_reducible refine' od_plusT ?h1); walk_at "arith")
  | ((with_reducible refine' od_plusL ?h1); walk_at "arith")
  | ((with_reducible refine' od_plusS ?h1); walk_at "arith")
  | with_reducible exact od_isN | with_reducible exact od_notN
  | ((with_reducible refine od_eq ?_ ?_) <;> walk_at "shp")
  | ((with_reducible refine od_ne ?_ ?_) <;> walk_at "shp")
  | ((with_reducible refine od_inL ?_ ?_) <;> walk_at "shp")
  | ((with_reducible refine od_ixL ?_); assumption)
  | ((with_reducible refine od_ixT ?_); assumption))
local macro_rules | `(tactic| walk_at "ea") => `(tactic| first | with_reducible exact ea_nil | ((with_reducible refine' ea_consD ?h1 ?h2); (case h1 => walk_at "ev"); (case h2 => walk_at "ea")))
local macro_rules | `(tactic| walk_at "eo") => `(tactic| first | with_reducible exact eo_none | ((with_reducible refine' eo_at ?h1); (case h1 => walk_at "ev")))
local macro_rules | `(tactic| walk_at "cd") => `(tactic| first
  | with_reducible exact cd_lenL | with_reducible exact cd_lenT | with_reducible exact cd_tupL | with_reducible exact cd_tupT | with_reducible exact cd_lstL | with_reducible exact cd_lstT | with_reducible exact cd_abs | with_reducible exact cd_int)
local macro_rules | `(tactic| walk_at "ev") => `(tactic| first
  | with_reducible exact ev_int | with_reducible exact ev_bl | with_reducible exact ev_str | with_reducible exact ev_non
  | ((with_reducible refine' ev_var ?h1 ?h2); (case h1 => exact rfl); (case h2 => walk_at "rep"))
  | ((with_reducible refine' ev_opD ?h1 ?h2 ?h3); (case h1 => walk_at "ev"); (case h2 => walk_at "ev"); (case h3 => walk_at "od"))
  | ((with_reducible refine' ev_tupD ?h1); (case h1 => walk_at "ea"))
  | ((with_reducible refine' ev_lstD ?h1); (case h1 => walk_at "ea"))
  | ((with_reducible refine' ev_revL ?h1); (case h1 => walk_at "ev"))
  | ((with_reducible refine' ev_slD ?h1 ?h2 ?h3 ?h4); (case h1 => walk_at "ev"); (case h2 => walk_at "eo"); (case h3 => walk_at "eo"); (case h4 => first | with_reducible exact sd_tup | with_reducible exact sd_list))
  | ((with_reducible refine' ev_cbD ?h1 ?h2); (case h1 => walk_at "ea"); (case h2 => walk_at "cd"))
  | ((with_reducible refine' ev_notV ?h1); (case h1 => walk_at "ev"))
  | assumption)
local macro_rules | `(tactic| walk_at "et") => `(tactic| first
  | ((with_reducible refine' et_testD ?h1); (case h1 => walk_at "ev"))
  | ((with_reducible refine' et_BD ?h1); (case h1 => walk_at "ev"))
  | ((with_reducible refine' et_notD ?h1); (case h1 => walk_at "et"))
  | ((with_reducible refine' et_andD ?h1 ?h2); (case h1 => walk_at "et"); (case h2 => intro _; walk_at "et"))
  | ((with_reducible refine' et_orD ?h1 ?h2); (case h1 => walk_at "et"); (case h2 => intro _; walk_at "et"))
  | assumption)
section
variable {K : PySem.W.Frag} {M : Md} {h g : Addr} {J H : Hp}
/-- a draw, as other laws write it: the number is made one behind the pop (c: what their numbers are mixed with) -/
def tDraw2 (K : PySem.W.Frag) (c : Int) : TS :=
  tSeq (tWhile (tAnd (tTest (tOp (rNeD K) (tH0 K) (tLst tNil))) (tTest (tOp (rEqD K) (tOp (rIx K) (tH0 K) (tUn (rU fun i => .int (-i)) (tC (.int 1)))) (tC (.int 0))))) (tDrop (tBM0 K "list" rPop (tH0 K))))
  (tSeq (tIfS (tTest (tOp (rNeD K) (tH0 K) (tLst tNil))) (tSeq (tAsg (tBM0 K "list" rPop (tH0 K)) (gName 2)) (tSeq (tDrop (tBM K "list" rAppend (tH0 K) (tCons (tOp rDiv (tVar 2) (tVar 1)) tNil))) (tRet (tOp rMod (tCB rInt1 (tCons (tVar 2) tNil)) (tVar 1))))) tNext)
  (tSeq (tAsg (tOp rMod (tCB rInt1 (tCons (tOp (rPlus K) (tOp rMul (tH1 K) (tC (.int 48271))) (tC (.int c))) tNil)) (tC (.int 2147483647))) (gSub (tVar 0) (tC (.int 1)) rSetL)) (tRet (tOp rMod (tCB rInt1 (tCons (tOp rDiv (tH1 K) (tC (.int 64))) tNil)) (tVar 1)))))
variable {σ : L2.St} {Q : VK} {cs : List Int} {n : Int}
theorem rd_draw2 (hd : HasDr M h g) (w : Wf M J H) (hn : 0 < n) (hn2 : n < 2 ^ 64) {c : Int} (hc : 0 ≤ c ∧ c < 2 ^ 60) (q : ∀ i H', Wf M J H' → Tr M J H J H' → 0 ≤ i → i < n → Q (.int i) H') :
    tDraw2 K c { nx := fun _ H' => Q .non H', rt := Q } [some (.ref h), some (.int n), none] H := by
  obtain ⟨cs0, m0, x0⟩ := drAt_of (hd.ok H w.inv)
  have go : ∀ {G : Hp} {cs m}, (∀ a o, a ≠ h → a ≠ g → H a = some o → G a = some o) → DrAt h g cs m G → Tr M J H J G := fun k x => dr_tr hd w k x.ok
  refine ⟨fun m σ G => σ = [some (.ref h), some (.int n), none] ∧ (∀ a o, a ≠ h → a ≠ g → H a = some o → G a = some o) ∧ ∃ cs k, DrAt h g cs k G ∧ cs.length = m, ⟨_, rfl, fun _ _ _ _ e => e, cs0, m0, x0, rfl⟩, ?_⟩
  rintro m σ G ⟨rfl, kp, cs, k, x, rfl⟩
  have kn : ∀ {G : Hp} {p : Addr} {o : HO}, (∀ a o, a ≠ h → a ≠ g → H a = some o → G a = some o) → G p = none → ∀ a u, a ≠ h → a ≠ g → H a = some u → upd G p o a = some u := fun {G p o} kp hp a u n1 n2 e => by
    rw [upd_ne (ne_of_none (kp a u n1 n2 e) hp)]; exact kp a u n1 n2 e
  have kg : ∀ {G : Hp} {o : HO}, (∀ a o, a ≠ h → a ≠ g → H a = some o → G a = some o) → ∀ a u, a ≠ h → a ≠ g → H a = some u → upd G g o a = some u := fun {G o} kp a u n1 n2 e => by
    rw [upd_ne n2]; exact kp a u n1 n2 e
  have kh : ∀ {G : Hp} {o : HO}, (∀ a o, a ≠ h → a ≠ g → H a = some o → G a = some o) → ∀ a u, a ≠ h → a ≠ g → H a = some u → upd G h o a = some u := fun {G o} kp a u n1 n2 e => by
    rw [upd_ne n1]; exact kp a u n1 n2 e
  -- behind the while
  have rest : ∀ {G : Hp} {cs : List Int} {k : Int}, (∀ a o, a ≠ h → a ≠ g → H a = some o → G a = some o) → DrAt h g cs k G →
      tSeq (tIfS (tTest (tOp (rNeD K) (tH0 K) (tLst tNil))) (tSeq (tAsg (tBM0 K "list" rPop (tH0 K)) (gName 2)) (tSeq (tDrop (tBM K "list" rAppend (tH0 K) (tCons (tOp rDiv (tVar 2) (tVar 1)) tNil))) (tRet (tOp rMod (tCB rInt1 (tCons (tVar 2) tNil)) (tVar 1))))) tNext)
        (tSeq (tAsg (tOp rMod (tCB rInt1 (tCons (tOp (rPlus K) (tOp rMul (tH1 K) (tC (.int 48271))) (tC (.int c))) tNil)) (tC (.int 2147483647))) (gSub (tVar 0) (tC (.int 1)) rSetL)) (tRet (tOp rMod (tCB rInt1 (tCons (tOp rDiv (tH1 K) (tC (.int 64))) tNil)) (tVar 1))))
        { nx := fun _ H' => Q .non H', rt := Q } [some (.ref h), some (.int n), none] G := by
    intro G cs k kp x
    refine rd_full rfl x fun p hp => ?_
    have x1 := x.new (o := .lst []) hp
    have kp1 := kn (o := .lst []) kp hp
    by_cases hcs : cs = []
    · rw [decide_eq_true hcs]
      refine rd_h1 rfl x1 ⟨k, 48271, rfl, rfl, cmul_small (by have := x1.n0; have := x1.n1; omega) (by decide), ?_⟩
      refine .inl ⟨_, c, rfl, rfl, .inl ⟨_, rfl, _, 2147483647, rfl, rfl, (by show (0 : Int) < 2147483647; decide), .ref h, rfl, ?_⟩⟩
      refine ⟨h, _, 1, 1, rfl, rfl, x1.hh, rfl, ?_⟩
      have x2 : DrAt h g cs ((k * 48271 + c) % 2147483647) (upd (upd G p (.lst [])) h (.lst [.ref g, .int ((k * 48271 + c) % 2147483647)])) :=
        ⟨upd_same, (upd_ne hd.ne.symm).trans x1.hg, x1.pos, x1.few, by omega, by omega⟩
      have t := go (kh kp1) x2
      refine rd_h1 rfl x2 ⟨_, 64, rfl, rfl, cdiv_small (by decide) (by decide), .inl ⟨_, rfl, .int n, rfl, _, n, rfl, rfl, hn, ?_⟩⟩
      exact q _ _ (t.wf w) t (Int.emod_nonneg _ (by omega)) (Int.emod_lt_of_pos _ hn)
    · rw [decide_eq_false hcs]
      obtain ⟨ds, z, rfl⟩ : ∃ ds z, cs = ds ++ [z] := ⟨cs.dropLast, cs.getLast hcs, (List.dropLast_concat_getLast hcs).symm⟩
      refine rd_h0 rfl x1 ⟨.inl ⟨rfl, _, .of x1.hg⟩, g, _, .int z, rfl, rfl, x1.hg, by simp, ?_⟩
      have z0 : 0 ≤ z := x1.pos z (by simp)
      have x2 : DrAt h g ds k (upd (upd G p (.lst [])) g (.lst (ds.map V.int))) :=
        ⟨(upd_ne hd.ne).trans x1.hh, upd_same, fun y hy => x1.pos y (by simp [hy]), by have := x1.few; rw [List.length_append] at this; omega, x1.n0, x1.n1⟩
      have e1 : ((ds ++ [z]).map V.int).dropLast = ds.map V.int := by rw [List.map_append]; simp
      rw [e1]
      refine rd_h0 rfl x2 ⟨.inl ⟨rfl, _, .of x2.hg⟩, _, rfl, _, rfl, z, n, rfl, rfl, cdiv_small hn hn2, g, _, .int (z / n), rfl, rfl, x2.hg, ?_, ?_⟩
      · have := x2.few
        rw [List.length_map]
        exact Nat.lt_of_le_of_lt this (by decide)
      · have x3 : DrAt h g (ds ++ [z / n]) k (upd (upd (upd G p (.lst [])) g (.lst (ds.map V.int))) g (.lst (ds.map V.int ++ [.int (z / n)]))) :=
          ⟨(upd_ne hd.ne).trans x2.hh, by rw [upd_same, List.map_append]; rfl, fun y hy => by
            rcases List.mem_append.mp hy with hy | hy
            · exact x2.pos y hy
            · rw [List.mem_singleton.mp hy]; exact Int.ediv_nonneg z0 (by omega), by have := x1.few; rw [List.length_append] at this ⊢; exact this, x1.n0, x1.n1⟩
        have t := go (kg (kg kp1)) x3
        exact ⟨.int z, rfl, .inl ⟨z, rfl, .int n, rfl, z, n, rfl, rfl, hn, q _ _ (t.wf w) t (Int.emod_nonneg _ (by omega)) (Int.emod_lt_of_pos _ hn)⟩⟩
  refine rd_full rfl x fun p hp => ?_
  have x1 := x.new (o := .lst []) hp
  have kp1 := kn (o := .lst []) kp hp
  by_cases hcs : cs = []
  · rw [decide_eq_true hcs]
    exact rest kp1 x1
  · rw [decide_eq_false hcs]
    obtain ⟨ds, z, rfl⟩ : ∃ ds z, cs = ds ++ [z] := ⟨cs.dropLast, cs.getLast hcs, (List.dropLast_concat_getLast hcs).symm⟩
    refine rd_h0 rfl x1 ⟨1, rfl, .inl ⟨g, _, -1, .int z, rfl, rfl, .of x1.hg, atI_last, .int z, .int 0, .int z, .int 0, sh_int z, sh_int 0, _, rfl, ?_⟩⟩
    rw [eqv_int]
    by_cases hz : z = 0
    · rw [decide_eq_true hz]
      have x2 : DrAt h g ds k (upd (upd G p (.lst [])) g (.lst (ds.map V.int))) :=
        ⟨(upd_ne hd.ne).trans x1.hh, upd_same, fun y hy => x1.pos y (by simp [hy]), by have := x1.few; rw [List.length_append] at this; omega, x1.n0, x1.n1⟩
      refine ⟨fun σ' G' => σ' = [some (.ref h), some (.int n), none] ∧ (∀ a o, a ≠ h → a ≠ g → H a = some o → G' a = some o) ∧ ∃ k, DrAt h g ds k G', fun σ' G' ⟨e, b, k', b2⟩ => ⟨ds.length, by rw [List.length_append]; exact Nat.lt_succ_self _, e, b, ds, k', b2, rfl⟩, ?_⟩
      refine rd_h0 rfl x1 ⟨.inl ⟨rfl, _, .of x1.hg⟩, g, _, .int z, rfl, rfl, x1.hg, by simp, rfl, ?_⟩
      have e1 : ((ds ++ [z]).map V.int).dropLast = ds.map V.int := by rw [List.map_append]; simp
      rw [e1]
      exact ⟨kg kp1, k, x2⟩
    · rw [decide_eq_false hz]
      exact rest kp1 x1
end
/-- the list of draws, as the laws make it -/
def tHeap2 (K : PySem.W.Frag) (p q m c : Int) : TS :=
  tSeq (tAsg (tLc (iList K (tSl (rSlL K) (tVar 0) (tPart (tVar 1)) (tPart (tOp (rPlus K) (tVar 1) (tC (.int 50)))))) (gName 4) tYes (tCB rAbs (tCons (tVar 4) tNil)) [4]) (gName 2))
  (tSeq (tAsg (tOp (rPlus K) (tC (.int p)) (tOp rMul (tC (.int q)) (tVar 1))) (gName 3))
  (tSeq (tFor (iList K (tVar 2)) (gName 4) (tAsg (tOp rMod (tCB rInt1 (tCons (tOp (rPlus K) (tOp (rPlus K) (tOp rMul (tVar 3) (tC (.int 48271))) (tOp rMod (tCB rInt1 (tCons (tVar 4) tNil)) (tC (.int m)))) (tC (.int c))) tNil)) (tC (.int 2147483647))) (gName 3)))
  (tRet (tLst (tCons (tRevL K (tLc (iList K (tVar 2)) (gName 4) (tTest (tOp (rI0 fun i j => .bl (decide (j ≤ i))) (tVar 4) (tOp (rI CPow fun i j => .int (i ^ j.toNat)) (tC (.int 10)) (tC (.int 18))))) (tVar 4) [4])) (tCons (tVar 3) tNil))))))
theorem rd_heap2 {K : PySem.W.Frag} {H : Hp} {Q : VK} {a : Addr} {ns : List Int} {b p q m c : Int} (hS : SqL K H a (ns.map V.int)) (hp : 0 ≤ p ∧ p < 1000000000) (hq : 0 ≤ q ∧ q < 1000) (hb : 0 ≤ b ∧ b < 1000) (hm : 0 < m ∧ m < 2 ^ 32) (hc : 0 ≤ c ∧ c < 1000)
    (k : ∀ h g H', (∀ a o, H a = some o → H' a = some o) → H h = none → H g = none → h ≠ g → drOk h g H' → Q (.ref h) H') : tHeap2 K p q m c { nx := fun _ H' => Q .non H', rt := Q } [some (.ref a), some (.int b), none, none, none] H := by
  have w0 : Wf Md.pure (fun _ => none) H := ⟨(fun _ _ e => by cases e), trivial, nofun, nofun⟩
  have l63 : (cutA ns (some b) (some (b + 50))).length ≤ 63 := by
    obtain ⟨m, rfl⟩ : ∃ m : Nat, b = m := ⟨b.toNat, by omega⟩
    have e := cutA_nat ns m (m + 50)
    rw [show ((m + 50 : Nat) : Int) = (m : Int) + 50 by omega] at e
    rw [e, List.length_take]
    omega
  refine s_asgD (K := K) (d := .list (oD ((cutA ns (some b) (some (b + 50))).map absI))) w0 ?_ fun v1 J1 H1 w1 t1 a1 => ?_
  · rw [← dAbs_map]
    refine ev_lcMap (ew_listD (ev_script rfl hS (by walk_at "eo") (by walk_at "eo"))) (by rw [oD_len]; exact Nat.lt_of_le_of_lt l63 (by decide)) (fun x => rfl) fun d x J1 H1 hd w t ax => ?_
    obtain ⟨n, hn⟩ := List.getElem?_of_mem hd
    obtain ⟨i, _, rfl⟩ := oD_at hn
    show EvD K Md.pure _ _ _ _ (.int (absI i))
    unfold absI
    walk_at "ev"
  generalize hcs : (cutA ns (some b) (some (b + 50))).map absI = cs at a1
  have cpos : ∀ x ∈ cs, 0 ≤ x := fun x hx => by
    rw [← hcs] at hx
    obtain ⟨y, _, rfl⟩ := List.mem_map.mp hx
    exact absI_pos y
  have clen : cs.length ≤ 63 := by rw [← hcs, List.length_map]; exact l63
  dsimp only
  refine s_asgI (K := K) w1 (i := p + q * b) ?_ fun J2 H2 w2 t2 => ?_
  · walk_at "ev"
  have a2 := t2.jj.da a1
  dsimp only
  have z1 : 0 ≤ q * b := Int.mul_nonneg hq.1 hb.1
  have z2 : q * b ≤ 1000 * 1000 := Int.mul_le_mul (by omega) (by omega) hb.1 (by decide)
  refine s_forD (K := K) (oD cs) (fun i σ' J' H' => ∃ n o, σ' = [some (.ref a), some (.int b), some v1, some (.int n), o] ∧ 0 ≤ n ∧ n < 2147483647) w0 (t1.trans t2) ?_ (fun J2 H2 _ _ => ⟨p + q * b, none, rfl, by omega, by omega⟩) (fun i σ' J' H' T xs h _ => h) ?_ ?_
  · exact ew_listD (by walk_at "ev")
  · rintro i d x σ' J2 J' H' hdi w' t' s1 s2 ⟨n, o, rfl, n0, n1⟩ ax
    obtain ⟨y, hy, rfl⟩ := oD_at hdi
    rw [da_int ax]
    have m0 : 0 ≤ y % m := Int.emod_nonneg _ (by omega)
    have m1 : y % m < m := Int.emod_lt_of_pos _ (by omega)
    refine s_asgI (K := K) w' (i := (n * 48271 + y % m + c) % 2147483647) ?_ fun J1 H1 w1 t1 => ⟨J1, w1, t'.trans t1, s2.trans t1.jj, (n * 48271 + y % m + c) % 2147483647, some (.int y), rfl, by omega, by omega⟩
    walk_at "ev"
  rintro σ' J' H' w' t' s1 ⟨n, o, rfl, n0, n1⟩
  have a3 := s1.da a2
  dsimp only
  refine s_retD (K := K) (d := .list [.list (oD (cs.filter fun i => decide ((10 : Int) ^ 18 ≤ i)).reverse), .int n]) w' ?_ fun v J3 H3 w3 t3 a3 => ?_
  · refine ev_lstD (ea_consD ?_ (by walk_at "ea"))
    rw [← oD_rev, ← dBig_filter]
    refine ev_revL ?_
    have e : (oD cs).filter dBig = ((oD cs).filter dBig).map id := by simp
    rw [e]
    refine ev_lcFilter (ew_listD (by walk_at "ev")) (by rw [oD_len]; exact Nat.lt_of_le_of_lt clen (by decide)) (fun x => rfl) (fun d x J1 H1 hd w t ax => ?_) fun d x J1 H1 hd _ w t ax => ?_
    · obtain ⟨k, hk⟩ := List.getElem?_of_mem hd
      obtain ⟨i, _, rfl⟩ := oD_at hk
      show EvT Md.pure _ _ _ _ (· = decide ((10 : Int) ^ (18 : Int).toNat ≤ i))
      walk_at "et"
    · show EvD K Md.pure _ _ _ _ d
      walk_at "ev"
  have tt := t'.trans t3
  obtain ⟨h, xs, rfl, jh, ha⟩ := da_lst a3
  cases ha with
  | cons b1 b2 =>
    obtain ⟨u, rfl, b3⟩ := das_one b2
    obtain ⟨g, ys, rfl, jg, hb⟩ := da_lst b1
    have eu := da_int b3
    subst eu
    have ey := das_ints_eq (ns := (cs.filter fun i => decide ((10 : Int) ^ 18 ≤ i)).reverse) hb
    subst ey
    have fresh : ∀ {x o}, J3 x = some o → H x = none := fun {x o} e => by
      cases q : H x with
      | none => rfl
      | some u => rw [tt.frp x (by rw [q]; exact nofun) rfl] at e; cases e
    refine k h g H3 (fun a o e => tt.keep a o (fun z => z) e) (fresh jh) (fresh jg) (fun e => ?_) ⟨_, n, tt.jh _ _ jh, tt.jh _ _ jg, fun x hx => ?_, ?_, n0, n1⟩
    · rw [e, jg] at jh
      have z := HO.lst.inj (Option.some.inj jh)
      cases hl : (cs.filter fun i => decide ((10 : Int) ^ 18 ≤ i)).reverse with
      | nil => rw [hl] at z; cases z
      | cons i is => rw [hl] at z; cases z
    · exact cpos x (List.mem_filter.mp (List.mem_reverse.mp hx)).1
    · rw [List.length_reverse]
      exact Nat.le_trans (List.length_filter_le _ _) clen
end DL

/-! More rules over data: comprehensions over pairs, any, sorted, isinstance, dicts that are only read, lists of one's own looked at while they grow. -/
namespace DL
open PySem PySem.Spec
open PyProof.Rows L2
local macro_rules | `(tactic| walk_at "rep") => `(tactic| first | assumption | exact Da.int _ | exact Da.bl _ | exact Da.str _ | exact Da.non | exact Sub.da (by assumption) (by assumption) | exact Sub.da (Tr.jj (by assumption)) (by assumption))
local macro_rules | `(tactic| walk_at "arith") => `(tactic| first | assumption | omega | decide | exact cmul_small (by omega) (by omega) | exact cdiv_small (by omega) (by omega))
local macro_rules | `(tactic| walk_at "shp") => `(tactic| first | exact sh_int _ | exact sh_tup _ | exact sh_list _ | assumption)
local macro_rules | `(tactic| walk_at "od") => `(tactic| first
  | with_reducible exact od_plus
  | with_reducible exact od_sub
  | ((with_reducible refine' od_mul ?h1); walk_at "arith")
  | ((with_reducible refine' od_mod ?h1); walk_at "arith")
  | ((with_reducible refine' od_fdiv ?h1); walk_at "arith")
  | ((with_reducible refine' od_pow ?h1); exact ⟨by decide, by decide, by decide⟩)
  | with_reducible exact od_lt | with_reducible exact od_le | with_reducible exact od_gt | with_reducible exact od_ge
  | ((with_reducible refine' od_plusT ?h1); walk_at "arith")
  | ((with_reducible refine' od_plusL ?h1); walk_at "arith")
  | ((with_reducible refine' od_plusS ?h1); walk_at "arith")
  | with_reducible exact od_isN | with_reducible exact od_notN
  | ((with_reducible refine od_eq ?_ ?_) <;> walk_at "shp")
  | ((with_reducible refine od_ne ?_ ?_) <;> walk_at "shp")
  | ((with_reducible refine od_inL ?_ ?_) <;> walk_at "shp")
  | ((with_reducible refine od_ixL ?_); assumption)
  | ((with_reducible refine od_ixT ?_); assumption))
local macro_rules | `(tactic| walk_at "ea") => `(tactic| first | with_reducible exact ea_nil | ((with_reducible refine' ea_consD ?h1 ?h2); (case h1 => walk_at "ev"); (case h2 => walk_at "ea")))
local macro_rules | `(tactic| walk_at "eo") => `(tactic| first | with_reducible exact eo_none | ((with_reducible refine' eo_at ?h1); (case h1 => walk_at "ev")))
local macro_rules | `(tactic| walk_at "cd") => `(tactic| first
  | with_reducible exact cd_lenL | with_reducible exact cd_lenT | with_reducible exact cd_tupL | with_reducible exact cd_tupT | with_reducible exact cd_lstL | with_reducible exact cd_lstT | with_reducible exact cd_abs | with_reducible exact cd_int)
local macro_rules | `(tactic| walk_at "ev") => `(tactic| first
  | with_reducible exact ev_int | with_reducible exact ev_bl | with_reducible exact ev_str | with_reducible exact ev_non
  | ((with_reducible refine' ev_var ?h1 ?h2); (case h1 => exact rfl); (case h2 => walk_at "rep"))
  | ((with_reducible refine' ev_opD ?h1 ?h2 ?h3); (case h1 => walk_at "ev"); (case h2 => walk_at "ev"); (case h3 => walk_at "od"))
  | ((with_reducible refine' ev_tupD ?h1); (case h1 => walk_at "ea"))
  | ((with_reducible refine' ev_lstD ?h1); (case h1 => walk_at "ea"))
  | ((with_reducible refine' ev_revL ?h1); (case h1 => walk_at "ev"))
  | ((with_reducible refine' ev_slD ?h1 ?h2 ?h3 ?h4); (case h1 => walk_at "ev"); (case h2 => walk_at "eo"); (case h3 => walk_at "eo"); (case h4 => first | with_reducible exact sd_tup | with_reducible exact sd_list))
  | ((with_reducible refine' ev_cbD ?h1 ?h2); (case h1 => walk_at "ea"); (case h2 => walk_at "cd"))
  | ((with_reducible refine' ev_notV ?h1); (case h1 => walk_at "ev"))
  | assumption)
local macro_rules | `(tactic| walk_at "et") => `(tactic| first
  | ((with_reducible refine' et_testD ?h1); (case h1 => walk_at "ev"))
  | ((with_reducible refine' et_BD ?h1); (case h1 => walk_at "ev"))
  | ((with_reducible refine' et_notD ?h1); (case h1 => walk_at "et"))
  | ((with_reducible refine' et_andD ?h1 ?h2); (case h1 => walk_at "et"); (case h2 => intro _; walk_at "et"))
  | ((with_reducible refine' et_orD ?h1 ?h2); (case h1 => walk_at "et"); (case h2 => intro _; walk_at "et"))
  | assumption)
section
variable {K : PySem.W.Frag} {M : Md} {σ : L2.St} {J H J' H' J0 H0 J1 H1 : Hp} {ta tb te tc : TE} {P P' Px : PyData → Prop} {d dx dy : PyData} {v : V} {i j : Int}
/-- a comprehension over pairs -/
theorem ev_lc2 {k l : Nat} {wi : TI} {tt : TT} {vs : List Nat} {Pw : List PyData → Prop} (I : List PyData → Nat → List PyData → Prop) (hw : EvW K M wi σ J H Pw) (hz : ∀ ds, Pw ds → ds.length < sizeLine) (hp : ∀ ds, Pw ds → ∀ d ∈ ds, ∃ x y, d = .tuple [x, y]) (h0 : ∀ ds, Pw ds → I ds 0 [])
    (hv : ∀ x y, wipe (((wipe σ vs).set k (some x)).set l (some y)) vs = wipe σ vs)
    (hs : ∀ ds i d e acc x y J1 H1, Pw ds → ds[i]? = some (.tuple [d, e]) → I ds i acc → Wf M J1 H1 → Tr M J H J1 H1 → Da K J1 x d → Da K J1 y e → ∃ Pb : Bool → Prop, EvT M tt (((wipe σ vs).set k (some x)).set l (some y)) J1 H1 Pb ∧
      (Pb false → I ds (i + 1) acc) ∧ (Pb true → EvP K M te (((wipe σ vs).set k (some x)).set l (some y)) J1 H1 fun e => I ds (i + 1) (acc ++ [e])))
    (hd : ∀ ds acc, Pw ds → I ds ds.length acc → P (.list acc)) : EvP K M (tLc wi (gTup K 2 (gCons (gName k) (gCons (gName l) gNil))) tt te vs) σ J H P := fun Ja Ha wa ta' Q q =>
  hw Ja Ha wa ta' _ fun A ds J2 H2 w2 t2 pw wd D hD => by
    have nfD : ¬ M.fp D := w2.nofp hD
    refine ⟨fun i m G => m = ds.length - i ∧ i ≤ ds.length ∧ ∃ J' acc ys, (Wf M J' G ∧ Tr M J2 H2 J' G) ∧ (G D = some (.lst ys) ∧ J' D = none) ∧ Das K J' ys acc ∧ ys.length ≤ i ∧ I ds i acc,
      ⟨ds.length, rfl, Nat.zero_le _, J2, [], [], ⟨(w2.cell hD).wf w2, w2.cell hD⟩, ⟨upd_same, w2.jh.back hD⟩, .nil, Nat.le_refl _, h0 ds pw⟩, ?_⟩
    rintro i m G ⟨rfl, hi, J', acc, ys, ⟨w', t'⟩, ⟨hG, jD⟩, ha, hl, hI⟩
    by_cases hlt : i < ds.length
    · refine .inr ⟨wd.go i G hlt (t'.jj.trans t'.jh), fun G' => ∃ J' acc ys, (Wf M J' G' ∧ Tr M J2 H2 J' G') ∧ (G' D = some (.lst ys) ∧ J' D = none) ∧ Das K J' ys acc ∧ ys.length ≤ i + 1 ∧ I ds (i + 1) acc,
        fun G' h' => ⟨_, by omega, rfl, hlt, h'⟩, fun z G' yl => ?_⟩
      have hdi : ds[i]? = some ds[i] := List.getElem?_eq_getElem hlt
      obtain ⟨d, e, ede⟩ := hp ds pw _ (List.getElem_mem hlt)
      rw [ede] at hdi
      -- the pair's things are known: the turn
      have turn : ∀ J3 G3, Wf M J3 G3 → Tr M J2 H2 J3 G3 → G3 D = some (.lst ys) → J3 D = none → Das K J3 ys acc → Da K J3 z (.tuple [d, e]) →
          gTup K 2 (gCons (gName k) (gCons (gName l) gNil)) z (wipe σ vs) G3 fun σ2 H2' => wipe σ2 vs = wipe σ vs ∧ tt σ2 H2' fun b H3 => if b = true then te σ2 H3 fun y H4 => ∃ acc, H4 D = some (.lst acc) ∧ acc.length < sizeLine ∧
            (∃ J' acc' ys, (Wf M J' (upd H4 D (.lst (acc ++ [y]))) ∧ Tr M J2 H2 J' (upd H4 D (.lst (acc ++ [y])))) ∧ ((upd H4 D (.lst (acc ++ [y]))) D = some (.lst ys) ∧ J' D = none) ∧ Das K J' ys acc' ∧ ys.length ≤ i + 1 ∧ I ds (i + 1) acc')
            else ∃ J' acc ys, (Wf M J' H3 ∧ Tr M J2 H2 J' H3) ∧ (H3 D = some (.lst ys) ∧ J' D = none) ∧ Das K J' ys acc ∧ ys.length ≤ i + 1 ∧ I ds (i + 1) acc := by
        intro J3 G3 w3 t3 hG3 jD3 ha3 ax
        obtain ⟨c, us, rfl, ht, hdd⟩ := da_tup ax
        cases hdd with
        | cons a1 rest =>
        obtain ⟨u, rfl, a2⟩ := das_one rest
        refine ⟨c, _, rfl, w3.jh.t ht, rfl, _, _, rfl, _, _, rfl, rfl, hv _ _, ?_⟩
        obtain ⟨Pb, hb, hf, ht2⟩ := hs ds i d e acc _ _ J3 G3 pw hdi hI w3 ((ta'.trans t2).trans t3) a1 a2
        refine hb J3 G3 w3 w3.tr _ fun b J4 G4 w4 t4 pb => ?_
        cases b with
        | false => exact ⟨J4, acc, ys, ⟨w4, t3.trans t4⟩, ⟨t4.keep D _ nfD hG3, t4.cellj hG3 jD3⟩, t4.jj.das ha3, by omega, hf pb⟩
        | true =>
          refine ht2 pb J4 G4 w4 t4 _ fun y e J5 G5 w5 t5 pe ae => ?_
          have t35 := t4.trans t5
          have jD5 := t35.cellj hG3 jD3
          have zz := hz ds pw
          have tp := (t3.trans t35).put (zs := ys ++ [y]) w2 (t35.keep D _ nfD hG3) hD jD5
          refine ⟨ys, t35.keep D _ nfD hG3, by omega, J5, acc ++ [e], ys ++ [y], ⟨tp.wf w2, tp⟩, ⟨upd_same, jD5⟩, das_app (t35.jj.das ha3) (.cons ae .nil), ?_, pe⟩
          rw [List.length_append]; simp only [List.length_cons, List.length_nil]; omega
      rcases wd.yld i G z G' _ hdi (t'.jj.trans t'.jh) yl with ⟨rfl, ax⟩ | ⟨T, xs, es, rfl, hT, rfl, ed, hes⟩
      · exact turn J' G' w' t' hG jD ha (t'.jj.da ax)
      · have tn := w'.new (o := .tup xs) hT
        refine turn _ _ (tn.wf w') (t'.trans tn) (tn.keep D _ nfD hG) (tn.cellj hG jD) (tn.jj.das ha) ?_
        rw [ed]
        exact .tup (.of upd_same) (tn.jj.das (t'.jj.das hes))
    · have e : i = ds.length := by omega
      subst e
      have ti := t'.ice hD jD hG
      exact .inl ⟨wd.stop G (t'.jj.trans t'.jh), q _ _ _ G (ti.wf w2) (t2.trans ti) (hd ds acc pw hI) (.lst upd_same ((Sub.new jD).das ha))⟩
/-- any of a list of bools; sorted numbers -/
theorem das_bls {J : Hp} : ∀ {vs : List V} {bs : List Bool}, Das K J vs (bs.map PyData.bool) → vs = bs.map V.bl
  | [], [], _ => rfl
  | [], _ :: _, h => by cases h
  | _ :: _, [], h => by cases h
  | _ :: _, _ :: _, h => by
    cases h with
    | cons a b => rw [da_bl a, das_bls b]; rfl
theorem cd_any {bs : List Bool} : CbD K M (rAny K) [.list (bs.map PyData.bool)] (· = .bool (bs.any id)) := fun vs J H w a Q q => by
  obtain ⟨v, rfl, av⟩ := das_one a
  obtain ⟨p, xs, rfl, hl, hd⟩ := da_lst av
  have e := das_bls hd
  subst e
  exact ⟨p, bs, rfl, .of (w.jh _ _ hl), q _ _ J H w w.tr rfl (.bl _)⟩
theorem cd_sorted {ns : List Int} : CbD K M (rSortedI K) [.list (oD ns)] (fun d => ∃ ms, d = .list (oD ms) ∧ ms.Perm ns ∧ ms.Pairwise (· ≤ ·)) := fun vs J H w a Q q => by
  obtain ⟨v, rfl, av⟩ := das_one a
  obtain ⟨p, xs, rfl, hl, hd⟩ := da_lst av
  have e := das_ints_eq hd
  subst e
  refine ⟨p, ns, rfl, .of (w.jh _ _ hl), fun ms l h1 h2 hn => ?_⟩
  have t := w.new (o := .lst (ms.map V.int)) hn
  exact q _ _ _ _ (t.wf w) t ⟨ms, rfl, h1, h2⟩ (.lst upd_same (das_intsV ms))
/-- range(n) as a value, made a list -/
theorem ty_tup {ds : List PyData} (h : Da K J v (.tuple ds)) (s : Sub J H) : TyX K H v (.type "tuple") := by
  obtain ⟨a, xs, rfl, ht, _⟩ := da_tup h
  rcases s.t ht with (h | ⟨o, h⟩) | ⟨o, its, n, h, c, _⟩
  · exact .base (.tup h)
  · exact .fTuple h
  · exact .kTuple h c
theorem kit_self (t : Value) : PySem.W.kitOne K t t = some true := by
  unfold PySem.W.kitOne
  rw [if_pos (beq_self_eq_true t)]
/-- a list or a tuple, walked -/
def iSeq (K : PySem.W.Frag) (tl : TE) : TI := fun σ H R => tl σ H fun x G => ∃ a xs, x = .ref a ∧ ((SqL K G a xs ∧ R (Itl K a) G) ∨ (SqT K G a xs ∧ R (Itt K a) G))
theorem pi_seq {X : Cx} {tg l : Expr} {tl : TE} (hl : PE X l tl) : PI X tg l (iSeq X.K tl) := ⟨fun pins s σ H R I h =>
  thn (hl.run pins s σ H _ I h) fun v s1 ⟨x, G, I1, r1, a, xs, e, told⟩ => by
    subst e
    cases r1
    have one : ∀ {o : Obj} {b : Addr}, b ∈ [s1.heap.objs.size] → FpOk X pins G b := fun {o b} hb => by
      rw [List.mem_singleton.mp hb]
      exact I1.fpOk (Nat.le_refl _) (I1.hok.fresh (Nat.le_refl _))
    rcases told with ⟨hq, r⟩ | ⟨hq, r⟩
    · obtain ⟨its, _, p, _⟩ := I1.list hq
      exact wpAny_pyIter_list p.isList ⟨s1.heap.objs.size, [s1.heap.objs.size], _, _, G, rfl, I1.kept (t' := s1.toks) fun b o e => Heap.get?_push_of_some _ e, turn_list a _, ⟨_, Heap.get?_push_size _ rfl, rfl, rfl⟩, fun b hb => one (o := ⟨.none, none, .plain, #[]⟩) hb, r⟩
    · obtain ⟨its, _, p, _⟩ := I1.tuple hq
      exact wpAny_pyIter_tuple (show s1.heap.IsTuple a its.toArray from p) ⟨s1.heap.objs.size, [s1.heap.objs.size], _, _, G, rfl, I1.kept (t' := s1.toks) fun b o e => Heap.get?_push_of_some _ e, turn_tuple a _, ⟨_, Heap.get?_push_size _ rfl, rfl, rfl⟩, fun b hb => one (o := ⟨.none, none, .plain, #[]⟩) hb, r⟩⟩
theorem ew_seq {ds : List PyData} (h : EvP K M te σ J H fun d => d = .list ds ∨ d = .tuple ds) : EvW K M (iSeq K te) σ J H (· = ds) := fun J1 H1 w t R q =>
  h J1 H1 w t _ fun v d J2 H2 w2 t2 e a => by
    rcases e with e | e
    · subst e
      obtain ⟨p, xs, rfl, hl, hd⟩ := da_lst a
      refine ⟨p, xs, rfl, .inl ⟨.of (w2.jh _ _ hl), q _ ds J2 H2 w2 t2 rfl ⟨fun i G hi s => ?_, fun G s => ⟨xs, .of (s _ _ hl), by rw [das_len hd]; exact Nat.le_refl _⟩, fun i G x G' d hd' s y => ?_⟩⟩⟩
      · have hi2 : i < xs.length := by rw [das_len hd]; exact hi
        exact ⟨xs, xs[i], .of (s _ _ hl), List.getElem?_eq_getElem hi2⟩
      · obtain ⟨e, y⟩ := y
        obtain ⟨d2, e2, a2⟩ := das_at hd (y xs (.of (s _ _ hl)))
        rw [hd'] at e2
        cases e2
        exact .inl ⟨e, a2⟩
    · subst e
      obtain ⟨p, xs, rfl, hl, hd⟩ := da_tup a
      refine ⟨p, xs, rfl, .inr ⟨w2.jh.t hl, q _ ds J2 H2 w2 t2 rfl ⟨fun i G hi s => ?_, fun G s => ⟨xs, s.t hl, by rw [das_len hd]; exact Nat.le_refl _⟩, fun i G x G' d hd' s y => ?_⟩⟩⟩
      · have hi2 : i < xs.length := by rw [das_len hd]; exact hi
        exact ⟨xs, xs[i], s.t hl, List.getElem?_eq_getElem hi2⟩
      · obtain ⟨e, y⟩ := y
        obtain ⟨d2, e2, a2⟩ := das_at hd (y xs (s.t hl))
        rw [hd'] at e2
        cases e2
        exact .inl ⟨e, a2⟩
/-! ### a list of one's own that still grows: is it empty -/
theorem et_full {k : Nat} {p : Addr} {ys : List V} (hs : σ[k]? = some (some (.ref p))) (hH : H p = some (.lst ys)) (nf : ¬ M.fp p) : EvT M (tTruth K (tVar k)) σ J H (· = !ys.isEmpty) := fun J1 H1 w t Q q =>
  ⟨.ref p, hs, _, .inl ⟨ys, .of (t.keep p _ nf hH), rfl⟩, q _ J1 H1 w w.tr rfl⟩
theorem dp_cell {p : Addr} {ys : List V} {ds : List PyData} (hH : H p = some (.lst ys)) (a : Das K J ys ds) (s : Sub J H) : Dp K H (.ref p) (.list ds) := .lst (.of hH) (a.dp s)
/-- x != [] of such a list -/
theorem ev_neNil {k : Nat} {p : Addr} {ys : List V} {ds : List PyData} (hs : σ[k]? = some (some (.ref p))) (hH : H p = some (.lst ys)) (nf : ¬ M.fp p) (a : Das K J ys ds) (hsh : SeqAt.shaped (.list ds) = true) : EvD K M (tOp (rNeD K) (tVar k) (tLst tNil)) σ J H (.bool (!PyData.eqv (.list ds) (.list []))) := fun J1 H1 w t Q q =>
  ⟨.ref p, hs, Nat.zero_le _, fun l hl => by
    have t2 := w.new (o := .lst []) hl
    have w2 := t2.wf w
    have tt := t.trans t2
    exact ⟨.list ds, .list [], dp_cell (tt.keep p _ nf hH) (tt.jj.das a) w2.jh, .lst (.of (w2.jh _ _ upd_same)) .nil, hsh, by decide, q _ _ _ _ w2 t2 rfl (.bl _)⟩⟩
/-! ### dicts with numbers as keys, only read -/
def rDictP (K : PySem.W.Frag) : List V → Hp → VK → Prop := fun xs H Q => ∃ (a : Addr) (ps : List Addr) (kvs : List (Key × V)), xs = [.ref a] ∧ SqL K H a (ps.map V.ref) ∧ Paired (fun p kv => SqT K H p [kV kv.1, kv.2]) ps kvs ∧ ∀ p, H p = none → Q (.ref p) (upd H p (.dK (mergeK [] kvs)))
theorem cl_dictP {X : Cx} (hc : X.calm = true) : CallR X (.type "dict") (rDictP X.K) := call_dictP hc
abbrev kI (i : Int) : Key := .inl i
theorem merge_val {f : Int → PyData} : ∀ (more acc : List (Key × V)), (∀ kv ∈ more, ∃ i, kv.1 = .inl i ∧ Da K J kv.2 (f i)) → (∀ k v, valV acc k = some v → ∃ i, k = .inl i ∧ Da K J v (f i)) →
    ∀ i, (kI i ∈ more.map (·.1) ∨ (valV acc (.inl i)).isSome = true) → ∃ v, valV (mergeK acc more) (.inl i) = some v ∧ Da K J v (f i)
  | [], acc, _, h, i, hi => by
    rcases hi with hi | hi
    · cases hi
    · obtain ⟨v, e⟩ := Option.isSome_iff_exists.mp hi
      obtain ⟨j, ej, a⟩ := h _ v e
      cases ej
      exact ⟨v, e, a⟩
  | (k, v) :: more, acc, g, h, i, hi => by
    obtain ⟨j, ej, a⟩ := g (k, v) List.mem_cons_self
    have ej : k = .inl j := ej
    subst ej
    refine merge_val more (putK acc (.inl j) v) (fun kv hkv => g kv (List.mem_cons_of_mem _ hkv)) (fun k' v' e => ?_) i ?_
    · rw [L2.valV_put] at e
      by_cases hk : k' = kI j
      · rw [if_pos hk] at e
        cases e
        exact ⟨j, hk, a⟩
      · rw [if_neg hk] at e
        exact h k' v' e
    · rw [L2.valV_put]
      by_cases hk : kI i = .inl j
      · exact .inr (by rw [if_pos hk]; rfl)
      · rw [if_neg hk]
        rcases hi with hi | hi
        · rcases List.mem_cons.mp hi with e | e
          · exact (hk e).elim
          · exact .inl e
        · exact .inr hi
/-- a list of pairs (number, datum), as dict wants it -/
theorem das_pairs {f : Int → PyData} {G : Hp} (s : Sub J G) : ∀ {is : List Int} {vs : List V}, Das K J vs (is.map fun i => .tuple [.int i, f i]) → ∃ (ps : List Addr) (kvs : List (Key × V)), vs = ps.map V.ref ∧ Paired (fun p kv => SqT K G p [kV kv.1, kv.2]) ps kvs ∧ kvs.map (·.1) = is.map kI ∧ ∀ kv ∈ kvs, ∃ i, kv.1 = .inl i ∧ Da K J kv.2 (f i)
  | [], _, h => by cases h; exact ⟨[], [], rfl, .nil, rfl, nofun⟩
  | i :: is, _, h => by
    cases h with
    | cons a b =>
    obtain ⟨ps, kvs, e1, e2, e3, e4⟩ := das_pairs s b
    obtain ⟨p, us, rfl, ht, hd⟩ := da_tup a
    cases hd with
    | cons a1 a2 =>
    obtain ⟨u, rfl, a3⟩ := das_one a2
    rw [da_int a1] at ht
    refine ⟨p :: ps, (.inl i, u) :: kvs, by rw [e1]; rfl, .cons (s.t ht) e2, by rw [List.map_cons, List.map_cons, e3], fun kv hkv => ?_⟩
    rcases List.mem_cons.mp hkv with e | e
    · rw [e]; exact ⟨i, rfl, a3⟩
    · exact e4 kv e
/-- xs = dict(pairs) -/
theorem s_dict {k : Nat} {f : Int → PyData} {is : List Int} {D : Ends} (w : Wf M J H) (h : EvD K M te σ J H (.list (is.map fun i => .tuple [.int i, f i])))
    (q : ∀ p kvs J1 H1, Wf M J1 H1 → Tr M J H J1 H1 → J1 p = some (.dK kvs) → (∀ i ∈ is, ∃ v, valV kvs (.inl i) = some v ∧ Da K J1 v (f i)) → D.nx (σ.set k (some (.ref p))) H1) : tAsg (tCB (rDictP K) (tCons te tNil)) (gName k) D σ H :=
  h J H w w.tr _ fun v d J1 H1 w1 t1 e a => by
    subst e
    obtain ⟨p, xs, rfl, hl, hd⟩ := da_lst a
    obtain ⟨ps, kvs, e1, e2, e3, e4⟩ := das_pairs w1.jh hd
    subst e1
    refine ⟨p, ps, kvs, rfl, .of (w1.jh _ _ hl), e2, fun l hn => ?_⟩
    have t2 := w1.new (o := .dK (mergeK [] kvs)) hn
    refine q l (mergeK [] kvs) _ _ (t2.wf w1) (t1.trans t2) upd_same fun i hi => ?_
    obtain ⟨v, h1, h2⟩ := merge_val kvs [] e4 (fun k v e => by cases e) i (.inl (by rw [e3]; exact List.mem_map.mpr ⟨i, hi, rfl⟩))
    exact ⟨v, h1, t2.jj.da h2⟩
theorem ev_dget {k : Nat} {p : Addr} {kvs : List (Key × V)} (hs : σ[k]? = some (some (.ref p))) (hJ : J p = some (.dK kvs)) (hi : EvD K M te σ J H (.int i)) (hv : valV kvs (.inl i) = some v) (ha : Da K J v d) : EvD K M (tDGet (tVar k) te) σ J H d := fun J1 H1 w t Q q =>
  ⟨.ref p, hs, hi J1 H1 w t _ fun x d' J2 H2 w2 t2 e a => by
    subst e
    rw [da_int a]
    exact ⟨p, v, rfl, .inl ⟨kvs, .inl i, .of (w2.jh _ _ ((t.trans t2).jj _ _ hJ)), rfl, hv.symm⟩, q v d J2 H2 w2 t2 rfl ((t.trans t2).jj.da ha)⟩⟩
end
end DL

/-! in, not in of a tuple of data; list(range(n)); keywords the other way round. -/
namespace DL
open PySem PySem.Spec
open PyProof.Rows L2
local macro_rules | `(tactic| walk_at "rep") => `(tactic| first | assumption | exact Da.int _ | exact Da.bl _ | exact Da.str _ | exact Da.non | exact Sub.da (by assumption) (by assumption) | exact Sub.da (Tr.jj (by assumption)) (by assumption))
local macro_rules | `(tactic| walk_at "arith") => `(tactic| first | assumption | omega | decide | exact cmul_small (by omega) (by omega) | exact cdiv_small (by omega) (by omega))
local macro_rules | `(tactic| walk_at "shp") => `(tactic| first | exact sh_int _ | exact sh_tup _ | exact sh_list _ | assumption)
local macro_rules | `(tactic| walk_at "od") => `(tactic| first
  | with_reducible exact od_plus
  | with_reducible exact od_sub
  | ((with_reducible refine' od_mul ?h1); walk_at "arith")
  | ((with_reducible refine' od_mod ?h1); walk_at "arith")
  | ((with_reducible refine' od_fdiv ?h1); walk_at "arith")
  | ((with_reducible refine' od_pow ?h1); exact ⟨by decide, by decide, by decide⟩)
  | with_reducible exact od_lt | with_reducible exact od_le | with_reducible exact od_gt | with_reducible exact od_ge
  | ((with_reducible refine' od_plusT ?h1); walk_at "arith")
  | ((with_reducible refine' od_plusL ?h1); walk_at "arith")
  | ((with_reducible refine' od_plusS ?h1); walk_at "arith")
  | with_reducible exact od_isN | with_reducible exact od_notN
  | ((with_reducible refine od_eq ?_ ?_) <;> walk_at "shp")
  | ((with_reducible refine od_ne ?_ ?_) <;> walk_at "shp")
  | ((with_reducible refine od_inL ?_ ?_) <;> walk_at "shp")
  | ((with_reducible refine od_ixL ?_); assumption)
  | ((with_reducible refine od_ixT ?_); assumption))
local macro_rules | `(tactic| walk_at "ea") => `(tactic| first | with_reducible exact ea_nil | ((with_reducible refine' ea_consD ?h1 ?h2); (case h1 => walk_at "ev"); (case h2 => walk_at "ea")))
local macro_rules | `(tactic| walk_at "eo") => `(tactic| first | with_reducible exact eo_none | ((with_reducible refine' eo_at ?h1); (case h1 => walk_at "ev")))
local macro_rules | `(tactic| walk_at "cd") => `(tactic| first
  | with_reducible exact cd_lenL | with_reducible exact cd_lenT | with_reducible exact cd_tupL | with_reducible exact cd_tupT | with_reducible exact cd_lstL | with_reducible exact cd_lstT | with_reducible exact cd_abs | with_reducible exact cd_int)
local macro_rules | `(tactic| walk_at "ev") => `(tactic| first
  | with_reducible exact ev_int | with_reducible exact ev_bl | with_reducible exact ev_str | with_reducible exact ev_non
  | ((with_reducible refine' ev_var ?h1 ?h2); (case h1 => exact rfl); (case h2 => walk_at "rep"))
  | ((with_reducible refine' ev_opD ?h1 ?h2 ?h3); (case h1 => walk_at "ev"); (case h2 => walk_at "ev"); (case h3 => walk_at "od"))
  | ((with_reducible refine' ev_tupD ?h1); (case h1 => walk_at "ea"))
  | ((with_reducible refine' ev_lstD ?h1); (case h1 => walk_at "ea"))
  | ((with_reducible refine' ev_revL ?h1); (case h1 => walk_at "ev"))
  | ((with_reducible refine' ev_slD ?h1 ?h2 ?h3 ?h4); (case h1 => walk_at "ev"); (case h2 => walk_at "eo"); (case h3 => walk_at "eo"); (case h4 => first | with_reducible exact sd_tup | with_reducible exact sd_list))
  | ((with_reducible refine' ev_cbD ?h1 ?h2); (case h1 => walk_at "ea"); (case h2 => walk_at "cd"))
  | ((with_reducible refine' ev_notV ?h1); (case h1 => walk_at "ev"))
  | assumption)
local macro_rules | `(tactic| walk_at "et") => `(tactic| first
  | ((with_reducible refine' et_testD ?h1); (case h1 => walk_at "ev"))
  | ((with_reducible refine' et_BD ?h1); (case h1 => walk_at "ev"))
  | ((with_reducible refine' et_notD ?h1); (case h1 => walk_at "et"))
  | ((with_reducible refine' et_andD ?h1 ?h2); (case h1 => walk_at "et"); (case h2 => intro _; walk_at "et"))
  | ((with_reducible refine' et_orD ?h1 ?h2); (case h1 => walk_at "et"); (case h2 => intro _; walk_at "et"))
  | assumption)
def rInDT (K : PySem.W.Frag) (neg : Bool) : R2 := fun x y H Q => ∃ d ds, (Dp K H x d ∧ SeqAt.shaped d = true) ∧ (Dp K H y (.tuple ds) ∧ SeqAt.shaped (.tuple ds) = true) ∧ Q (.bl (if neg then !(ds.any fun z => PyData.eqv z d) else ds.any fun z => PyData.eqv z d)) H
theorem op_notInDT {X : Cx} (hu : X.A.units + 65 < cLine) : OpR X (compareOp .NotIn) (rInDT X.K true) := fun pins s σ H x y v u Q I rx ry ⟨d, ds, ⟨hd, sd⟩, ⟨he, se⟩, q⟩ => by
  obtain ⟨as, r1⟩ := Dp.reads I d x v hd rx
  obtain ⟨bs, r2⟩ := Dp.reads I (.tuple ds) y u he ry
  exact SeqAt.notIn_tuple_reads r2 r1 (SeqAt.canLay_of_shaped se) (SeqAt.canLay_of_shaped sd) (room_in_shaped sd hu) ⟨.bl _, H, I, rfl, q⟩
theorem op_inDT {X : Cx} (hu : X.A.units + 65 < cLine) : OpR X (compareOp .In) (rInDT X.K false) := fun pins s σ H x y v u Q I rx ry ⟨d, ds, ⟨hd, sd⟩, ⟨he, se⟩, q⟩ => by
  obtain ⟨as, r1⟩ := Dp.reads I d x v hd rx
  obtain ⟨bs, r2⟩ := Dp.reads I (.tuple ds) y u he ry
  exact SeqAt.in_tuple_reads r2 r1 (SeqAt.canLay_of_shaped se) (SeqAt.canLay_of_shaped sd) (room_in_shaped sd hu) ⟨.bl _, H, I, rfl, q⟩
section
variable {K : PySem.W.Frag} {M : Md} {σ : L2.St} {J H : Hp} {ta te : TE} {dx : PyData} {ds : List PyData}
theorem od_niT (sx : SeqAt.shaped dx = true) (sy : SeqAt.shaped (.tuple ds) = true) : OpD K M (rInDT K true) dx (.tuple ds) (· = .bool (!ds.any fun z => PyData.eqv z dx)) :=
  od_flat (v := .bl _) (fun x y J H s ax ay Q q => ⟨dx, ds, ⟨ax.dp s, sx⟩, ⟨ay.dp s, sy⟩, q⟩) fun _ => .bl _
theorem od_inT (sx : SeqAt.shaped dx = true) (sy : SeqAt.shaped (.tuple ds) = true) : OpD K M (rInDT K false) dx (.tuple ds) (· = .bool (ds.any fun z => PyData.eqv z dx)) :=
  od_flat (v := .bl _) (fun x y J H s ax ay Q q => ⟨dx, ds, ⟨ax.dp s, sx⟩, ⟨ay.dp s, sy⟩, q⟩) fun _ => .bl _
/-- 0, 1, .. below n, as numbers -/
def rg (n : Nat) : List Int := (List.range n).map fun i : Nat => (i : Int)
theorem rg_mem {n : Nat} {x : Int} (h : x ∈ rg n) : 0 ≤ x ∧ x < n := by
  obtain ⟨i, hi, rfl⟩ := List.mem_map.mp h
  have := List.mem_range.mp hi
  omega
theorem rg_len (n : Nat) : (rg n).length = n := by unfold rg; simp
theorem ev_listRg {n : Nat} (h : EvD K M te σ J H (.int (n : Int))) (hn : n ≤ 2 ^ 20) : EvD K M (tLstRg (tRg1 te)) σ J H (.list (oD (rg n))) := fun J1 H1 w t Q q =>
  h J1 H1 w t _ fun v d J2 H2 w2 t2 e a => by
    subst e
    refine ⟨(n : Int), da_int a, RgOk.of_le (by decide) (by omega) (by decide) (by omega), fun p hp => ?_⟩
    have e1 : rgV 0 (n : Int) = (rg n).map V.int := by
      unfold rgV rg
      rw [List.map_map, show ((n : Int) - 0).toNat = n by omega]
      refine List.map_congr_left fun i _ => ?_
      show V.int (0 + (i : Int)) = V.int (i : Int)
      rw [Int.zero_add]
    rw [e1]
    have t3 := w2.new (o := .lst ((rg n).map V.int)) hp
    exact q _ _ _ _ (t3.wf w2) (t2.trans t3) rfl (.lst upd_same (t3.jj.das (das_intsV _)))
end
/-! ### f(b=.., a=..): the keywords the other way round -/
theorem fun_kbR {K : PySem.W.Frag} {x qual : Str} {params : Arguments} {body : List Stmt} {scope : Scope} {f : Addr} {fd : FuncData} {ps : List Str} (F : FunD K x qual params body scope [] [] f fd) (ks : List Str)
    (h : ∀ (kV doc pm : Value) (an : Option Addr) (cdv ct : Value) (ws : List Value), ws.length = ks.length → bindArgs (PySem.W.fnOf x qual params body scope .none kV doc pm an cdv ct) ⟨[], ks.zip ws⟩ = pure (ps.zip ws.reverse)) :
    KBn K fd ps 0 ks (fun _ ws => ws.reverse) (fun _ zs => zs.reverse) := by
  obtain ⟨_, _, _, k1, d1, m1, a1, c1, t1, _, e, _, _, dfl, _⟩ := F.ex
  subst e
  have rv : ∀ {zs : List V} {ws : List Value}, Vals zs ws → Vals zs.reverse ws.reverse := by
    intro zs ws r
    induction r with
    | nil => exact .nil
    | cons a b ih => rw [List.reverse_cons, List.reverse_cons]; exact ih.append (.cons a .nil)
  match dfl with
  | .inl ⟨_, none_⟩ =>
    subst none_
    refine ⟨fun s us ws _ l1 l2 => ?_, fun _ r2 => rv r2⟩
    have e : us = [] := List.eq_nil_of_length_eq_zero l1
    subst e
    exact .of_eq (h k1 d1 m1 a1 c1 t1 ws l2)
  | .inr ⟨some_, _⟩ => exact absurd rfl some_
structure CaR (P : Program) (w : World) (K : PySem.W.Frag) (mg : Str → Option Value) (base : Heap) (CX : CXT) (k : Nat) (x : Str) (ps : List Str) (ks : List Str) (sp : Sp) : Prop where
  has : ∃ f fd, FnOk P w K mg base CX k f fd ps sp ∧ mg x = some (.ref f) ∧ PySem.W.keepIn K (.ref f) = true ∧ KBn K fd ps 0 ks (fun _ ws => ws.reverse) (fun _ zs => zs.reverse)
theorem xCallKr {X : Cx} {CX : CXT} {k : Nat} {ps ks : List Str} {sp : Sp} {E : XK} {kws : List Keyword} {p pos : Pos} {x : Str} {tk : TA} (C : CaR X.prog X.w X.K X.mg X.base CX k x ps ks sp) (hr : Room k X.A) (hx : Passes CX X E) (hkw : PK X kws tk) (hg : Gl X x := by rfl) (hdb : (x == ("__debug__" : Str)) = false := by decide)
    (hall : (backToKw pos (keywordEach kws X.env)).all (·.1.isSome) = true := by rfl) (hks : (backToKw pos (keywordEach kws X.env)).filterMap (·.1) = ks := by rfl) (hpl : ((backTo pos (starEach [] X.env)).any (·.1) || (backToKw pos (keywordEach kws X.env)).any (·.1.isNone)) = false := by rfl) :
    PE X (.Call (.Name x p) [] kws pos) (fun σ H Q => tk σ H fun zs H2 => zs.length = ks.length ∧ sp zs.reverse H2 Q E) := by
  obtain ⟨f, fd, F, hm, hk, hb⟩ := C.has
  refine ⟨fun pins s σ H Q I h => wpAny_Call_Name_kw (ld_glob I hg hm ?_ hdb)⟩
  refine PySem.W.callWith_KW0 (h₀ := X.base) I.ok.mod.kin hk hall (thn (hkw.run pos pins s σ H _ I h) fun ws s2 ⟨zs, H2, I2, rz, l1, q2⟩ => ⟨I2.kIn, ?_⟩) hpl
  rw [hks]
  exact run_fnN (us := []) (vs := []) F hr hb hx I2 .nil rz rfl l1 q2
theorem das_revV {K : PySem.W.Frag} {J : Hp} {vs : List V} {ds : List PyData} (h : Das K J vs ds) : Das K J vs.reverse ds.reverse := das_rev h
theorem ev_callKr {K : PySem.W.Frag} {M : Md} {σ : L2.St} {J H : Hp} {sp : Sp} {E : XK} {m : Nat} {ta : TA} {ds : List PyData} {P : PyData → Prop} (h : EvA K M ta σ J H (· = ds)) (hm : ds.length = m) (ho : SpD K M sp ds.reverse P E) : EvP K M (fun σ H Q => ta σ H fun zs H2 => zs.length = m ∧ sp zs.reverse H2 Q E) σ J H P := fun J1 H1 w t Q q =>
  h J1 H1 w t _ fun vs ds' J2 H2 w2 t2 e a => by
    subst e
    exact ⟨by rw [das_len a]; exact hm, ho vs.reverse J2 H2 w2 (das_revV a) Q fun v d J3 H3 w3 t3 p a3 => q v d J3 H3 w3 (t2.trans t3) p a3⟩
end DL

/-! Rules within a comprehension: what is known of the text is named. -/
namespace DL
open PySem PySem.Spec
open PyProof.Rows L2
local macro_rules | `(tactic| walk_at "rep") => `(tactic| first | assumption | exact Da.int _ | exact Da.bl _ | exact Da.str _ | exact Da.non | exact Sub.da (by assumption) (by assumption) | exact Sub.da (Tr.jj (by assumption)) (by assumption))
local macro_rules | `(tactic| walk_at "arith") => `(tactic| first | assumption | omega | decide | exact cmul_small (by omega) (by omega) | exact cdiv_small (by omega) (by omega))
local macro_rules | `(tactic| walk_at "shp") => `(tactic| first | exact sh_int _ | exact sh_tup _ | exact sh_list _ | assumption)
local macro_rules | `(tactic| walk_at "od") => `(tactic| first
  | with_reducible exact od_plus
  | with_reducible exact od_sub
  | ((with_reducible refine' od_mul ?h1); walk_at "arith")
  | ((with_reducible refine' od_mod ?h1); walk_at "arith")
  | ((with_reducible refine' od_fdiv ?h1); walk_at "arith")
  | ((with_reducible refine' od_pow ?h1); exact ⟨by decide, by decide, by decide⟩)
  | with_reducible exact od_lt | with_reducible exact od_le | with_reducible exact od_gt | with_reducible exact od_ge
  | ((with_reducible refine' od_plusT ?h1); walk_at "arith")
  | ((with_reducible refine' od_plusL ?h1); walk_at "arith")
  | ((with_reducible refine' od_plusS ?h1); walk_at "arith")
  | with_reducible exact od_isN | with_reducible exact od_notN
  | ((with_reducible refine od_eq ?_ ?_) <;> walk_at "shp")
  | ((with_reducible refine od_ne ?_ ?_) <;> walk_at "shp")
  | ((with_reducible refine od_inL ?_ ?_) <;> walk_at "shp")
  | ((with_reducible refine od_ixL ?_); assumption)
  | ((with_reducible refine od_ixT ?_); assumption))
local macro_rules | `(tactic| walk_at "ea") => `(tactic| first | with_reducible exact ea_nil | ((with_reducible refine' ea_consD ?h1 ?h2); (case h1 => walk_at "ev"); (case h2 => walk_at "ea")))
local macro_rules | `(tactic| walk_at "eo") => `(tactic| first | with_reducible exact eo_none | ((with_reducible refine' eo_at ?h1); (case h1 => walk_at "ev")))
local macro_rules | `(tactic| walk_at "cd") => `(tactic| first
  | with_reducible exact cd_lenL | with_reducible exact cd_lenT | with_reducible exact cd_tupL | with_reducible exact cd_tupT | with_reducible exact cd_lstL | with_reducible exact cd_lstT | with_reducible exact cd_abs | with_reducible exact cd_int)
local macro_rules | `(tactic| walk_at "ev") => `(tactic| first
  | with_reducible exact ev_int | with_reducible exact ev_bl | with_reducible exact ev_str | with_reducible exact ev_non
  | ((with_reducible refine' ev_var ?h1 ?h2); (case h1 => exact rfl); (case h2 => walk_at "rep"))
  | ((with_reducible refine' ev_opD ?h1 ?h2 ?h3); (case h1 => walk_at "ev"); (case h2 => walk_at "ev"); (case h3 => walk_at "od"))
  | ((with_reducible refine' ev_tupD ?h1); (case h1 => walk_at "ea"))
  | ((with_reducible refine' ev_lstD ?h1); (case h1 => walk_at "ea"))
  | ((with_reducible refine' ev_revL ?h1); (case h1 => walk_at "ev"))
  | ((with_reducible refine' ev_slD ?h1 ?h2 ?h3 ?h4); (case h1 => walk_at "ev"); (case h2 => walk_at "eo"); (case h3 => walk_at "eo"); (case h4 => first | with_reducible exact sd_tup | with_reducible exact sd_list))
  | ((with_reducible refine' ev_cbD ?h1 ?h2); (case h1 => walk_at "ea"); (case h2 => walk_at "cd"))
  | ((with_reducible refine' ev_notV ?h1); (case h1 => walk_at "ev"))
  | assumption)
local macro_rules | `(tactic| walk_at "et") => `(tactic| first
  | ((with_reducible refine' et_testD ?h1); (case h1 => walk_at "ev"))
  | ((with_reducible refine' et_BD ?h1); (case h1 => walk_at "ev"))
  | ((with_reducible refine' et_notD ?h1); (case h1 => walk_at "et"))
  | ((with_reducible refine' et_andD ?h1 ?h2); (case h1 => walk_at "et"); (case h2 => intro _; walk_at "et"))
  | ((with_reducible refine' et_orD ?h1 ?h2); (case h1 => walk_at "et"); (case h2 => intro _; walk_at "et"))
  | assumption)
section
variable {X : Cx} {a b e : Expr} {es : List Expr} {ta tb te : TE} {p pos : Pos} {x : Str} {t : TA}
theorem xIxK (K' : PySem.W.Frag) (hK : X.K = K') (ha : PE X a ta) (hb : PE X b tb) (hs : PlainIx b := by exact fun _ _ => rfl) : PE X (.Subscript a b pos) (tOp (rIx K') ta tb) := by
  subst hK
  exact xIx ha hb hs
theorem xTruthK (K' : PySem.W.Frag) (hK : X.K = K') (ha : PE X a ta) (he : ∀ whole, isTrue a X.env whole = (do let v ← whole; standAt a.pos; holding [v] (truthy v)) := by intro _; rfl) : PT X a (tTruth K' ta) := by
  subst hK
  exact xTruth ha he
theorem op_plusK (K' : PySem.W.Frag) (hK : X.K = K') : OpR X (binaryOp .Add) (rPlus K') := by subst hK; exact op_plus
theorem op_eqK (K' : PySem.W.Frag) (hK : X.K = K') (hu : X.A.units + 64 < cLine) : OpR X (compareOp .Eq) (rEqD K') := by subst hK; exact op_eqD hu
theorem op_neK (K' : PySem.W.Frag) (hK : X.K = K') (hu : X.A.units + 64 < cLine) : OpR X (compareOp .NotEq) (rNeD K') := by subst hK; exact op_neD hu
theorem op_inK (K' : PySem.W.Frag) (hK : X.K = K') (hu : X.A.units + 65 < cLine) : OpR X (compareOp .In) (rInD K') := by subst hK; exact op_inD hu
theorem op_niK (K' : PySem.W.Frag) (hK : X.K = K') (hu : X.A.units + 65 < cLine) : OpR X (compareOp .NotIn) (rNotInD K') := by subst hK; exact op_notInD hu
theorem op_inTK (K' : PySem.W.Frag) (hK : X.K = K') (hu : X.A.units + 65 < cLine) : OpR X (compareOp .In) (rInDT K' false) := by subst hK; exact op_inDT hu
theorem op_niTK (K' : PySem.W.Frag) (hK : X.K = K') (hu : X.A.units + 65 < cLine) : OpR X (compareOp .NotIn) (rInDT K' true) := by subst hK; exact op_notInDT hu
theorem cl_reprK (K' : PySem.W.Frag) (hK : X.K = K') (hA : X.A.guards = some []) (hu : X.A.units + 64 < cLine) : CallR X (.builtin "repr") (rRepr K') := by subst hK; exact cl_repr hA hu
theorem cl_lenK (K' : PySem.W.Frag) (hK : X.K = K') : CallR X (.builtin "len") (rLen K') := by subst hK; exact cl_len
theorem cl_tupK (K' : PySem.W.Frag) (hK : X.K = K') : CallR X (.type "tuple") (rTupOf K') := by subst hK; exact cl_tup
theorem cl_lstK (K' : PySem.W.Frag) (hK : X.K = K') : CallR X (.type "list") (rLstOf K') := by subst hK; exact cl_lst
theorem cr_anyK (K' : PySem.W.Frag) (hK : X.K = K') (hc : X.calm = true) : CallR X (.builtin "any") (rAny K') := by subst hK; exact cr_any hc
end
end DL

/-! Several except clauses that name what they caught; isinstance of what was caught, where it is one. -/
namespace DL
open PySem PySem.Spec
open PyProof.Rows L2
local macro_rules | `(tactic| walk_at "rep") => `(tactic| first | assumption | exact Da.int _ | exact Da.bl _ | exact Da.str _ | exact Da.non | exact Sub.da (by assumption) (by assumption) | exact Sub.da (Tr.jj (by assumption)) (by assumption))
local macro_rules | `(tactic| walk_at "arith") => `(tactic| first | assumption | omega | decide | exact cmul_small (by omega) (by omega) | exact cdiv_small (by omega) (by omega))
local macro_rules | `(tactic| walk_at "shp") => `(tactic| first | exact sh_int _ | exact sh_tup _ | exact sh_list _ | assumption)
local macro_rules | `(tactic| walk_at "od") => `(tactic| first
  | with_reducible exact od_plus
  | with_reducible exact od_sub
  | ((with_reducible refine' od_mul ?h1); walk_at "arith")
  | ((with_reducible refine' od_mod ?h1); walk_at "arith")
  | ((with_reducible refine' od_fdiv ?h1); walk_at "arith")
  | ((with_reducible refine' od_pow ?h1); exact ⟨by decide, by decide, by decide⟩)
  | with_reducible exact od_lt | with_reducible exact od_le | with_reducible exact od_gt | with_reducible exact od_ge
  | ((with_reducible refine' od_plusT ?h1); walk_at "arith")
  | ((with_reducible refine' od_plusL ?h1); walk_at "arith")
  | ((with_reducible refine' od_plusS ?h1); walk_at "arith")
  | with_reducible exact od_isN | with_reducible exact od_notN
  | ((with_reducible refine od_eq ?_ ?_) <;> walk_at "shp")
  | ((with_reducible refine od_ne ?_ ?_) <;> walk_at "shp")
  | ((with_reducible refine od_inL ?_ ?_) <;> walk_at "shp")
  | ((with_reducible refine od_ixL ?_); assumption)
  | ((with_reducible refine od_ixT ?_); assumption))
local macro_rules | `(tactic| walk_at "ea") => `(tactic| first | with_reducible exact ea_nil | ((with_reducible refine' ea_consD ?h1 ?h2); (case h1 => walk_at "ev"); (case h2 => walk_at "ea")))
local macro_rules | `(tactic| walk_at "eo") => `(tactic| first | with_reducible exact eo_none | ((with_reducible refine' eo_at ?h1); (case h1 => walk_at "ev")))
local macro_rules | `(tactic| walk_at "cd") => `(tactic| first
  | with_reducible exact cd_lenL | with_reducible exact cd_lenT | with_reducible exact cd_tupL | with_reducible exact cd_tupT | with_reducible exact cd_lstL | with_reducible exact cd_lstT | with_reducible exact cd_abs | with_reducible exact cd_int)
local macro_rules | `(tactic| walk_at "ev") => `(tactic| first
  | with_reducible exact ev_int | with_reducible exact ev_bl | with_reducible exact ev_str | with_reducible exact ev_non
  | ((with_reducible refine' ev_var ?h1 ?h2); (case h1 => exact rfl); (case h2 => walk_at "rep"))
  | ((with_reducible refine' ev_opD ?h1 ?h2 ?h3); (case h1 => walk_at "ev"); (case h2 => walk_at "ev"); (case h3 => walk_at "od"))
  | ((with_reducible refine' ev_tupD ?h1); (case h1 => walk_at "ea"))
  | ((with_reducible refine' ev_lstD ?h1); (case h1 => walk_at "ea"))
  | ((with_reducible refine' ev_revL ?h1); (case h1 => walk_at "ev"))
  | ((with_reducible refine' ev_slD ?h1 ?h2 ?h3 ?h4); (case h1 => walk_at "ev"); (case h2 => walk_at "eo"); (case h3 => walk_at "eo"); (case h4 => first | with_reducible exact sd_tup | with_reducible exact sd_list))
  | ((with_reducible refine' ev_cbD ?h1 ?h2); (case h1 => walk_at "ea"); (case h2 => walk_at "cd"))
  | ((with_reducible refine' ev_notV ?h1); (case h1 => walk_at "ev"))
  | assumption)
local macro_rules | `(tactic| walk_at "et") => `(tactic| first
  | ((with_reducible refine' et_testD ?h1); (case h1 => walk_at "ev"))
  | ((with_reducible refine' et_BD ?h1); (case h1 => walk_at "ev"))
  | ((with_reducible refine' et_notD ?h1); (case h1 => walk_at "et"))
  | ((with_reducible refine' et_andD ?h1 ?h2); (case h1 => walk_at "et"); (case h2 => intro _; walk_at "et"))
  | ((with_reducible refine' et_orD ?h1 ?h2); (case h1 => walk_at "et"); (case h2 => intro _; walk_at "et"))
  | assumption)
/-- how a clause with a name ends: its slot is empty again -/
def offE (D : Ends) (i : Nat) : Ends := { nx := fun σ H => D.nx (σ.set i none) H, rt := D.rt, bk := fun σ H => D.bk (σ.set i none) H, ct := fun σ H => D.ct (σ.set i none) H }
/-- clauses: the class, the name's slot, the suite -/
abbrev Cls3 : Type := Value × Nat × (Addr → Value → Option Addr → TS)
def wNamed (K : PySem.W.Frag) (Wo : WX) (D : Ends) : List Cls3 → WX
  | [] => Wo
  | (c, i, ts) :: more => fun cls d σ H => ∃ yes, PySem.W.exmOne K cls c = some yes ∧ (yes = true → ∀ a, H a = none → ts a cls d (offE D i) (σ.set i (some (.ref a))) H) ∧ (yes = false → wNamed K Wo D more cls d σ H)
inductive HdsN (X : Cx) : List ExceptHandler → List Cls3 → Prop
  | nil : HdsN X [] []
  | cons {x n : Str} {c : Value} {i : Nat} {ts : Addr → Value → Option Addr → TS} {b : Stmt} {bs : List Stmt} {p p' : Pos} {hds : List ExceptHandler} {l : List Cls3} (hc : Names X x c) (hi : X.N[i]? = some n) (hl : X.env.kindOf n = some .local)
      (hs : ∀ (a : Addr) (oe : Obj) (cls : Value) (d : Option Addr) (pn : List (Addr × Obj)), Zc cls d oe → (∃ vs, oe.data = .fields vs) → PSs (X.suite a ((a, oe) :: pn)) (b :: bs) (ts a cls d)) (more : HdsN X hds l) :
      HdsN X (.ExceptHandler (some (.Name x p)) (some n) (b :: bs) p' :: hds) ((c, i, ts) :: l)
section
variable {X : Cx} {body : List Stmt} {h₀ : ExceptHandler} {hds : List ExceptHandler} {l : List Cls3} {pos : Pos} {tb : WX → TS} {Wo : WX}
theorem ps_try_named (hs : X.stack = X.env :: X.outer) (hf : X.env.frame = some X.env.locals) (nd : X.N.Nodup) (tk : Takes X Wo) (hb : ∀ (W : WX) (pn : List (Addr × Obj)) (xe : Value → Shared → Prop), Takes (X.tr pn xe) W → PassesOwn (model X.prog X.w) X.A X.env xe → PSs (X.tr pn xe) body (tb W))
    (hh : HdsN X (h₀ :: hds) l) : PS X (.Try body (h₀ :: hds) [] [] pos) (fun D σ H => tb (wNamed X.K Wo D l) D σ H) := by
  constructor
  intro pins s σ H D I told
  have ok := I.ok
  have fr : X.A.frames = some (X.env :: X.outer) := ok.frames.trans (by rw [hs])
  let catch_ : Value → Shared → Prop := fun e t => wpAny (model X.prog X.w) X.A (noteFrame e X.env) (fun _ t => wpAny (model X.prog X.w) X.A (setFlight e none) (fun _ t => wpAny (model X.prog X.w) X.A (handleBy e X.env (h₀ :: hds)) (SP X pins D) X.xe t) X.xe t) X.xe t
  have runs := hb (wNamed X.K Wo D l) (X.pn ++ pins) catch_ (fun u t came => ?caught) PassesOwn.looking
  case caught =>
    obtain ⟨a, B, sI, pins', σ', H', cls, d, rfl, J', nb, up, sky, na, os, ag, wish⟩ := came
    have J : Inv X pins σ' H' sI := J'.ofTry ok
    refine Sky.land Zc.steady fr hf (by rw [← hs]; exact sky) fun g fly up1 => ?_
    obtain ⟨oe, fs, at_, hz, dat⟩ := fly.there
    have J1 : Inv X pins σ' H' { t with heap := g } := J.landed nb fly.1 (up.trans up1) os ag
    have off : a ∉ frs (X.env :: X.outer) := fun m => by
      obtain ⟨_, o', e', nf⟩ := fly.2.2.1.mem m
      rw [at_] at e'
      cases e'
      exact nf _ dat
    have nL : a ≠ X.env.locals := fun z => off (List.mem_filterMap.mpr ⟨X.env, List.mem_cons_self, by rw [hf, z]⟩)
    have nF : a ∉ X.fs := fun m => by
      obtain ⟨v, hv, q⟩ := List.mem_filterMap.mp m
      exact off (List.mem_filterMap.mpr ⟨v, List.mem_cons_of_mem _ hv, q⟩)
    have T := J1.suite at_ dat na nL nF
    have ty : PySem.W.Looks (model X.prog X.w) g (typeOf (.ref a)) cls := fun A Q E s k q => wpAny_typeOf_ref (k _ _ at_) (by rw [hz.1]; exact q)
    have each : ∀ {hs' : List ExceptHandler} {l' : List Cls3}, HdsN X hs' l' → wNamed X.K Wo D l' cls d σ' H' → wpAny (model X.prog X.w) X.A (handleBy (.ref a) X.env hs') (SP X pins D) X.xe { t with heap := g } := by
      intro hs' l' ck
      induction ck with
      | nil =>
        intro wo
        obtain ⟨_, _, _, oe', fs', _, _, _, at', _, dat', f1, _⟩ := id fly
        refine wpAny_handleBy_nil ?_
        have up_ : wpAny (model X.prog X.w) X.A (setFlight (.ref a) X.env.frame) (fun _ t => wpAny (model X.prog X.w) X.A (throw (.ref a) : Sem Flow) (SP X pins D) X.xe t) X.xe { t with heap := g } := by
          rw [hf]
          exact HandSPX.setFlight_upZ fly fun g2 hold up2 => wpAny_throw (tk _ _ ⟨a, B, sI, pins, σ', H', cls, d, rfl, J, nb, (up.trans up1).trans up2, .inr (.inr (by rw [hs]; exact hold)), na, os, ag, wo⟩)
        unfold PySem.passOn
        refine wpAny_bind (wpAny_field at' dat' f1 ?_)
        rw [if_neg (by simp : ¬ ((Value.ref _ == Value.none) = true))]
        first
          | exact wpAny_bind (wpAny_pure (wpAny_bind up_))
          | exact wpAny_bind up_
      | @cons x n c i ts b bs p p' hds2 l2 hc hi hl hsu more ih =>
        rintro ⟨yes, hm, w1, w2⟩
        refine wpAny_handleBy_cons (codeAny_handlers_test ?_) (by intro q; cases q)
        have is_ := PySem.W.exm_one (M := model X.prog X.w) J1.kIn ty hm
        have read : ∀ {Q E : Value → Shared → Prop}, Q c { t with heap := g } → wpAny (model X.prog X.w) (X.A.mark (some (.ref a))) (eval (.Name x p) X.env) Q E { t with heap := g } := fun {Q E} q => by
          obtain ⟨hg, hd, hm' | ⟨hm', hv, hn⟩⟩ := hc
          · exact ld_glob (X := X.suite a ((a, oe) :: (X.pn ++ pins))) T hg hm' q hd
          · exact ld_blt (X := X.suite a ((a, oe) :: (X.pn ++ pins))) T hg hm' hv q hn hd
        refine read (is_.here ?_)
        match yes, w1, w2 with
        | false, _, w2 =>
          show wpAny _ X.A (handleBy (.ref a) X.env hds2) _ _ _
          exact ih (w2 rfl)
        | true, w1, _ =>
          refine codeAny_handlers_suite_as (HandSPX.lands_againZ fly fun g2 fly2 up2 => ?_)
          obtain ⟨oe2, fs2, at2, hz2, dat2⟩ := fly2.there
          have J2 : Inv X pins σ' H' { t with heap := g2 } := J.landed nb fly2.1 ((up.trans up1).trans up2) os ag
          have T2 := J2.suite at2 dat2 na nL nF
          refine store_ok (X := X.suite a ((a, oe2) :: (X.pn ++ pins))) (v := .ref a) T2 nd hi (.inl hl) rfl (fun s5 T5 => ?_) (.inr hl)
          refine wpAny_mono ((hsu a oe2 cls d (X.pn ++ pins) hz2 ⟨_, dat2⟩).run [] s5 _ H' _ T5 (w1 rfl a na)) (fun fl s6 out => ?_) fun _ _ z => False.elim z
          have fin : ∀ {σ6 : L2.St} {H6 : Hp} {Q : Shared → Prop}, Inv (X.suite a ((a, oe2) :: (X.pn ++ pins))) [] σ6 H6 s6 → (∀ s7, Inv X pins (σ6.set i none) H6 s7 → Q s7) →
              wpAny (model X.prog X.w) X.A (do bindName X.env n .none; unbindBehindTheSuite X.env n p') (fun _ s7 => Q s7) X.xe s6 := fun {σ6 H6 Q} T6 q => gone_ok (T6.unsuite ok) nd hi hl q
          match fl, out with
          | .next, ⟨σ6, H6, T6, q6⟩ => exact fin T6 fun s7 J7 => ⟨_, _, J7, q6⟩
          | .brk, ⟨σ6, H6, T6, q6⟩ => exact fin T6 fun s7 J7 => ⟨_, _, J7, q6⟩
          | .cont, ⟨σ6, H6, T6, q6⟩ => exact fin T6 fun s7 J7 => ⟨_, _, J7, q6⟩
          | .ret u, ⟨v6, σ6, H6, T6, r6, q6⟩ => exact fin T6 fun s7 J7 => ⟨_, _, _, J7, r6, q6⟩
    exact each hh wish
  refine wpAny_Try_except (wpAny_mono (runs.run [] s σ H D (I.toTry _) told) (fun fl t out => ?_) fun _ _ he => he)
  match fl, out with
  | .next, ⟨σ', H', J, q⟩ => exact wpAny_execs_nil ⟨σ', H', J.ofTry ok, q⟩
  | .brk, ⟨σ', H', J, q⟩ => exact ⟨σ', H', J.ofTry ok, q⟩
  | .cont, ⟨σ', H', J, q⟩ => exact ⟨σ', H', J.ofTry ok, q⟩
  | .ret u, ⟨v, σ', H', J, r, q⟩ => exact ⟨v, σ', H', J.ofTry ok, r, q⟩
end
/-! ### isinstance of what was caught: yes -/
theorem ans_yes {K : PySem.W.Frag} {x t c : Value} {P : Heap → Prop} (ty : ∀ (M : Model) (h : Heap), K.In h → P h → PySem.W.Looks M h (typeOf x) t) (ne : (t == c) = false) (e : PySem.W.kitCls K t c = some true) : PySem.Answers (fun s => K.In s.heap ∧ P s.heap) x c true := by
  intro dep tk prog w A R s told
  obtain ⟨h0, g, d, tt, os⟩ := s
  obtain ⟨⟨X, p⟩, q⟩ := told
  obtain ⟨k1, k2, k3⟩ := PySem.W.kit_cls (M := model prog w) X e
  unfold Builtin.«isinstance.nested»
  refine wpAny_bind ((ty (model prog w) h0 X p).at ?_)
  rw [if_neg (by rw [ne]; exact Bool.false_ne_true)]
  refine wpAny_bind (k1.at ?_)
  rw [if_pos (by decide)]
  k_delta "plainIsInstance"
  refine wpAny_bind (wpAny_bind (k2.at ?_))
  simp only [Bool.not_true, Bool.false_eq_true, if_false]
  refine wpAny_bind (((ty (model prog w) h0 X p).andThen k3).at ?_)
  first
    | exact wpAny_pure (wpAny_pure (q tt))
    | (simp only [if_true]; first | exact wpAny_pure (wpAny_pure (q tt)) | exact wpAny_pure (q tt) | exact wpAny_bind (wpAny_pure (wpAny_pure (q tt))))
/-- isinstance(e, C), where e, the one that the suite holds, is one -/
def rIsY (K : PySem.W.Frag) (D : Value) (a : Addr) : List V → Hp → VK → Prop := fun xs H Q => ∃ C : Addr, xs = [.ref a, .ref C] ∧ ((D == .ref C) = false ∧ PySem.W.kitCls K D (.ref C) = some true) ∧ Q (.bl true) H
theorem call_isY {X : Cx} {a : Addr} {D : Value} {d : Option Addr} {oe : Obj} {pn : List (Addr × Obj)} (hz : Zc D d oe) : CallR (X.suite a ((a, oe) :: pn)) (.builtin "isinstance") (rIsY X.K D a) := by
  rintro pins s σ H xs us Q I r ⟨C, rfl, ⟨ne, e⟩, q⟩
  obtain ⟨u1, u2, rfl, r1, r2⟩ := vals2 r
  cases (show u1 = Value.ref a from r1)
  cases (show u2 = Value.ref C from r2)
  obtain ⟨at_, _⟩ := I.pin (a, oe) (List.mem_append.mpr (.inl List.mem_cons_self))
  exact PySem.call_isinstance (S := fun _ R s => (X.K.In s.heap ∧ s.heap.get? a = some oe) ∧ ∀ tk, R (.ok (.ret (.bool true))) { s with toks := tk })
    (fun prog w A R s told => PySem.isinstance_outer (ans_yes (P := fun h => h.get? a = some oe) (fun M h X' p A Q E s k z => wpAny_typeOf_ref (k _ _ p) (by rw [hz.1]; exact z)) ne e 0 _ prog w A R s told) (fun z => nomatch z)) ⟨⟨I.kIn, at_⟩, fun tk => ⟨.bl true, H, I.tok tk, rfl, q⟩⟩
end DL

/-! A tuple so many times, any number of times. -/
namespace DL
open PySem PySem.Spec
open PyProof.Rows L2
local macro_rules | `(tactic| walk_at "rep") => `(tactic| first | assumption | exact Da.int _ | exact Da.bl _ | exact Da.str _ | exact Da.non | exact Sub.da (by assumption) (by assumption) | exact Sub.da (Tr.jj (by assumption)) (by assumption))
local macro_rules | `(tactic| walk_at "arith") => `(tactic| first | assumption | omega | decide | exact cmul_small (by omega) (by omega) | exact cdiv_small (by omega) (by omega))
local macro_rules | `(tactic| walk_at "shp") => `(tactic| first | exact sh_int _ | exact sh_tup _ | exact sh_list _ | assumption)
local macro_rules | `(tactic| walk_at "od") => `(tactic| first
  | with_reducible exact od_plus
  | with_reducible exact od_sub
  | ((with_reducible refine' od_mul ?h1); walk_at "arith")
  | ((with_reducible refine' od_mod ?h1); walk_at "arith")
  | ((with_reducible refine' od_fdiv ?h1); walk_at "arith")
  | ((with_reducible refine' od_pow ?h1); exact ⟨by decide, by decide, by decide⟩)
  | with_reducible exact od_lt | with_reducible exact od_le | with_reducible exact od_gt | with_reducible exact od_ge
  | ((with_reducible refine' od_plusT ?h1); walk_at "arith")
  | ((with_reducible refine' od_plusL ?h1); walk_at "arith")
  | ((with_reducible refine' od_plusS ?h1); walk_at "arith")
  | with_reducible exact od_isN | with_reducible exact od_notN
  | ((with_reducible refine od_eq ?_ ?_) <;> walk_at "shp")
  | ((with_reducible refine od_ne ?_ ?_) <;> walk_at "shp")
  | ((with_reducible refine od_inL ?_ ?_) <;> walk_at "shp")
  | ((with_reducible refine od_ixL ?_); assumption)
  | ((with_reducible refine od_ixT ?_); assumption))
local macro_rules | `(tactic| walk_at "ea") => `(tactic| first | with_reducible exact ea_nil | ((with_reducible refine' ea_consD ?h1 ?h2); (case h1 => walk_at "ev"); (case h2 => walk_at "ea")))
local macro_rules | `(tactic| walk_at "eo") => `(tactic| first | with_reducible exact eo_none | ((with_reducible refine' eo_at ?h1); (case h1 => walk_at "ev")))
local macro_rules | `(tactic| walk_at "cd") => `(tactic| first
  | with_reducible exact cd_lenL | with_reducible exact cd_lenT | with_reducible exact cd_tupL | with_reducible exact cd_tupT | with_reducible exact cd_lstL | with_reducible exact cd_lstT | with_reducible exact cd_abs | with_reducible exact cd_int)
local macro_rules | `(tactic| walk_at "ev") => `(tactic| first
  | with_reducible exact ev_int | with_reducible exact ev_bl | with_reducible exact ev_str | with_reducible exact ev_non
  | ((with_reducible refine' ev_var ?h1 ?h2); (case h1 => exact rfl); (case h2 => walk_at "rep"))
  | ((with_reducible refine' ev_opD ?h1 ?h2 ?h3); (case h1 => walk_at "ev"); (case h2 => walk_at "ev"); (case h3 => walk_at "od"))
  | ((with_reducible refine' ev_tupD ?h1); (case h1 => walk_at "ea"))
  | ((with_reducible refine' ev_lstD ?h1); (case h1 => walk_at "ea"))
  | ((with_reducible refine' ev_revL ?h1); (case h1 => walk_at "ev"))
  | ((with_reducible refine' ev_slD ?h1 ?h2 ?h3 ?h4); (case h1 => walk_at "ev"); (case h2 => walk_at "eo"); (case h3 => walk_at "eo"); (case h4 => first | with_reducible exact sd_tup | with_reducible exact sd_list))
  | ((with_reducible refine' ev_cbD ?h1 ?h2); (case h1 => walk_at "ea"); (case h2 => walk_at "cd"))
  | ((with_reducible refine' ev_notV ?h1); (case h1 => walk_at "ev"))
  | assumption)
local macro_rules | `(tactic| walk_at "et") => `(tactic| first
  | ((with_reducible refine' et_testD ?h1); (case h1 => walk_at "ev"))
  | ((with_reducible refine' et_BD ?h1); (case h1 => walk_at "ev"))
  | ((with_reducible refine' et_notD ?h1); (case h1 => walk_at "et"))
  | ((with_reducible refine' et_andD ?h1 ?h2); (case h1 => walk_at "et"); (case h2 => intro _; walk_at "et"))
  | ((with_reducible refine' et_orD ?h1 ?h2); (case h1 => walk_at "et"); (case h2 => intro _; walk_at "et"))
  | assumption)
theorem tmul_one (l : Addr) (items : Array Value) (n : Nat) (dd : Option Addr) (sl : Array (Option Value)) (u : Tok) :
    Meets (Builtin.«tuple.__mul__» ⟨[.ref l, .int 1 u], []⟩) (fun _ R s => s.heap.get? l = some { cls := .type "tuple", dict := dd, data := .seq items n, slots := sl } ∧ R (.ok (.ret (.ref l))) s) :=
  .of_wp fun prog w A R s h => by
    obtain ⟨hp, g, d, tk, os⟩ := s
    obtain ⟨hl, h⟩ := h
    have f1 := AutoSeq1.idx_int
    have c1 : (items.isEmpty || (1 : Int) == 1) = true := by simp
    wp_walk using wpAny_loadPart' hl
    repeat (first
      | (refine wpAny_ite_false (decide_eq_false (by decide)) ?_; wp_walk using wpAny_loadPart' hl)
      | (refine wpAny_ite_true (decide_eq_true c1) ?_; wp_walk using wpAny_loadPart' hl))
    exact ⟨_, rfl, h⟩
theorem tmul_none (l : Addr) (items : Array Value) (n : Nat) (dd : Option Addr) (sl : Array (Option Value)) (x : Int) (u : Tok) (c0 : (decide (x < -(2 ^ 63)) || decide (x ≥ 2 ^ 63)) = false) (c1 : (items.isEmpty || x == 1) = false) (c2 : (decide (x ≤ 0) || items.isEmpty) = true) :
    Meets (Builtin.«tuple.__mul__» ⟨[.ref l, .int x u], []⟩) (fun _ R s => s.heap.get? l = some { cls := .type "tuple", dict := dd, data := .seq items n, slots := sl } ∧
      R (.ok (.ret (Value.ref s.heap.objs.size))) { s with heap := s.heap.push { cls := Value.type "tuple", data := Data.seq #[] }, toks := s.toks }) :=
  .of_wp fun prog w A R s h => by
    obtain ⟨hp, g, d, tk, os⟩ := s
    obtain ⟨hl, h⟩ := h
    have f1 := AutoSeq1.idx_int
    wp_walk using wpAny_loadPart' hl
    repeat (first
      | (refine wpAny_ite_false (decide_eq_false (by rw [c0]; exact Bool.false_ne_true)) ?_; wp_walk using wpAny_loadPart' hl)
      | (refine wpAny_ite_false (decide_eq_false (by rw [c1]; exact Bool.false_ne_true)) ?_; wp_walk using wpAny_loadPart' hl)
      | (refine wpAny_ite_true (decide_eq_true c2) ?_; wp_walk using wpAny_loadPart' hl))
    exact ⟨_, rfl, h⟩
/-- a tuple that is not empty, k times -/
def rRepW (K : PySem.W.Frag) : R2 := fun x y H Q => ∃ l k xs, x = .ref l ∧ y = .int k ∧ SqT K H l xs ∧ xs ≠ [] ∧ -(2 ^ 60) < k ∧ k < 2 ^ 60 ∧ xs.length * k.toNat ≤ 100000 ∧ (k = 1 → Q (.ref l) H) ∧
  (k ≠ 1 → ∀ p, H p = none → Q (.ref p) (upd H p (.tup (List.replicate k.toNat xs).flatten)))
section
variable {X : Cx}
theorem op_repW : OpR X (binaryOp .Mult) (rRepW X.K) := by
  intro pins s σ H x y v u Q I rx ry h
  obtain ⟨l, k, xs, rfl, rfl, hT, hne, h1, h2, hz, q1, q⟩ := h
  cases rx
  obtain ⟨t, rfl⟩ := ry
  obtain ⟨its, r, ⟨⟨cls, dd, data, sl⟩, ho, hc, n, hd⟩, hs⟩ := I.tuple hT
  simp only at hc hd
  subst hc hd
  have hle : its.length = xs.length := r.length.symm
  have hn : its ≠ [] := fun e => hne (by
    rw [e] at hle
    exact List.eq_nil_of_length_eq_zero hle.symm)
  have hi : its.toArray.isEmpty = false := by
    cases its with
    | nil => exact absurd rfl hn
    | cons a b => rfl
  have hsz0 : its.toArray.size = xs.length := by rw [List.size_toArray, hle]
  have len0 : 0 < xs.length := List.length_pos_iff.mpr hne
  have c0 : (decide (k < -(2 ^ 63)) || decide (k ≥ 2 ^ 63)) = false := by
    rw [decide_eq_false (by omega), decide_eq_false (by omega)] <;> rfl
  have flen : (List.replicate k.toNat its).flatten.length ≤ sizeLine := by
    rw [PyProof.Rows.lm_len_rep_flat, hle, Nat.mul_comm]
    exact Nat.le_trans hz (by decide)
  have lay : k ≠ 1 → ∀ h', (∀ b ob, s.heap.get? b = some ob → h'.get? b = some ob) → IsTup h' s.heap.objs.size (List.replicate k.toNat its).flatten.toArray →
      EP X pins σ Q (.ref s.heap.objs.size) { s with heap := h' } := fun hk h' kp ob => by
    refine ⟨.ref s.heap.objs.size, _, I.laid (t' := s.toks) (o := .tup (List.replicate k.toNat xs).flatten) kp (Nat.le_refl _) ?_, rfl, q hk _ (I.hok.fresh (Nat.le_refl _))⟩
    exact ⟨by rw [PyProof.Rows.lm_len_rep_flat, Nat.mul_comm]; exact Nat.le_trans hz (by decide), _, r.rep k.toNat, ob⟩
  refine wpAny_binaryOp_repeat_ref (T := "tuple") (U := "int") (by decide) ⟨_, ho, rfl⟩ (fun s' => typeIs_int s' k t) noFill_tuple_mul F.fills_int_mul F.slot_int_rmul repeat_tuple F.slot_int_index.lookup
    (call_meets F.slot_int_rmul (typeIs_int s k t) F.entry_int_rmul (F.args_int_rmul_2 _ _) (int_rmul_tuple k t l its.toArray n dd sl) ⟨ho, rfl, ⟨_, ho, rfl⟩, ?_⟩)
  by_cases e1 : k = 1
  · subst e1
    exact call_meets F.slot_tuple_mul ⟨_, ho, rfl⟩ F.entry_tuple_mul (F.args_tuple_mul_2 _ _) (tmul_one l its.toArray n dd sl t) ⟨ho, ⟨.ref l, H, I, rfl, q1 rfl⟩⟩
  have c1 : (its.toArray.isEmpty || k == 1) = false := by
    rw [hi, Bool.false_or]
    exact beq_eq_false_iff_ne.mpr e1
  by_cases e2 : k ≤ 0
  · have z0 : k.toNat = 0 := by omega
    refine call_meets F.slot_tuple_mul ⟨_, ho, rfl⟩ F.entry_tuple_mul (F.args_tuple_mul_2 _ _) (tmul_none l its.toArray n dd sl k t c0 c1 (by rw [decide_eq_true e2]; rfl)) ⟨ho, ?_⟩
    refine lay e1 _ (fun b ob q => Heap.get?_push_of_some _ q) ?_
    rw [z0]
    exact IsTup.new _ _
  · have hm : ((its.toArray.size : Nat) : Int) * k ≤ 100000 := by
      rw [hsz0]
      have e3 : ((xs.length : Nat) : Int) * k = ((xs.length * k.toNat : Nat) : Int) := by
        rw [Int.natCast_mul, Int.toNat_of_nonneg (by omega)]
      rw [e3]
      exact Int.ofNat_le.mpr hz
    have c2 : (decide (k ≤ 0) || its.toArray.isEmpty) = false := by
      rw [hi, Bool.or_false]
      exact decide_eq_false e2
    have c4 : Builtin.Tuple.tupleTooMany (((its.toArray.size : Nat) : Int) * k) = false := by
      unfold Builtin.Tuple.tupleTooMany
      refine decide_eq_false ?_
      have : (100000 : Int) ≤ (sizeLine : Int) := by decide
      omega
    refine call_meets F.slot_tuple_mul ⟨_, ho, rfl⟩ F.entry_tuple_mul (F.args_tuple_mul_2 _ _) (tuple_mulW l its.toArray n dd sl k t c0 c1 c2 (by omega) c4 (by rw [size_rep, List.size_toArray]; exact flen)) ⟨ho, ?_⟩
    rw [size_rep]
    exact lay e1 _ (fun b ob q => Heap.get?_push_of_some _ q) (IsTup.new _ _)
end
theorem od_repW {K : PySem.W.Frag} {M : Md} {ds : List PyData} {k : Int} (hne : ds ≠ []) (h1 : -(2 ^ 60) < k) (h2 : k < 2 ^ 60) (hl : ds.length * k.toNat ≤ 100000) : OpD K M (rRepW K) (.tuple ds) (.int k) (· = .tuple (List.replicate k.toNat ds).flatten) := fun x y J H w ax ay Q q => by
  obtain ⟨a, xs, rfl, ht, hd⟩ := da_tup ax
  have rep : ∀ (m : Nat) {J : Hp}, Das K J xs ds → Das K J (List.replicate m xs).flatten (List.replicate m ds).flatten := fun m => by
    intro J hd
    induction m with
    | zero => exact .nil
    | succ m ih => rw [List.replicate_succ, List.replicate_succ, List.flatten_cons, List.flatten_cons]; exact das_app hd ih
  refine ⟨a, k, xs, rfl, da_int ay, w.jh.t ht, fun e => hne ?_, h1, h2, by rw [das_len hd]; exact hl, fun e => ?_, fun _ p hp => ?_⟩
  · rw [e] at hd
    cases hd
    rfl
  · refine q _ _ J H w w.tr rfl ?_
    rw [e]
    have e1 : (List.replicate (Int.toNat 1) ds).flatten = ds := by simp
    rw [e1]
    exact ax
  · have t := w.new (o := .tup (List.replicate k.toNat xs).flatten) hp
    exact q _ _ _ _ (t.wf w) t rfl (.tup (.of upd_same) (t.jj.das (rep _ hd)))
end DL

/-! A lambda handed to a def that hears what it raises; the mode in which tables of code objects grow; a law's end with tables. -/
namespace DL
open PySem PySem.Spec
open PyProof.Rows L2
local macro_rules | `(tactic| walk_at "rep") => `(tactic| first | assumption | exact Da.int _ | exact Da.bl _ | exact Da.str _ | exact Da.non | exact Sub.da (by assumption) (by assumption) | exact Sub.da (Tr.jj (by assumption)) (by assumption))
local macro_rules | `(tactic| walk_at "arith") => `(tactic| first | assumption | omega | decide | exact cmul_small (by omega) (by omega) | exact cdiv_small (by omega) (by omega))
local macro_rules | `(tactic| walk_at "shp") => `(tactic| first | exact sh_int _ | exact sh_tup _ | exact sh_list _ | assumption)
local macro_rules | `(tactic| walk_at "od") => `(tactic| first
  | with_reducible exact od_plus
  | with_reducible exact od_sub
  | ((with_reducible refine' od_mul ?h1); walk_at "arith")
  | ((with_reducible refine' od_mod ?h1); walk_at "arith")
  | ((with_reducible refine' od_fdiv ?h1); walk_at "arith")
  | ((with_reducible refine' od_pow ?h1); exact ⟨by decide, by decide, by decide⟩)
  | with_reducible exact od_lt | with_reducible exact od_le | with_reducible exact od_gt | with_reducible exact od_ge
  | ((with_reducible refine' od_plusT ?h1); walk_at "arith")
  | ((with_reducible refine' od_plusL ?h1); walk_at "arith")
  | ((with_reducible refine' od_plusS ?h1); walk_at "arith")
  | with_reducible exact od_isN | with_reducible exact od_notN
  | ((with_reducible refine od_eq ?_ ?_) <;> walk_at "shp")
  | ((with_reducible refine od_ne ?_ ?_) <;> walk_at "shp")
  | ((with_reducible refine od_inL ?_ ?_) <;> walk_at "shp")
  | ((with_reducible refine od_ixL ?_); assumption)
  | ((with_reducible refine od_ixT ?_); assumption))
local macro_rules | `(tactic| walk_at "ea") => `(tactic| first | with_reducible exact ea_nil | ((with_reducible refine' ea_consD ?h1 ?h2); (case h1 => walk_at "ev"); (case h2 => walk_at "ea")))
local macro_rules | `(tactic| walk_at "eo") => `(tactic| first | with_reducible exact eo_none | ((with_reducible refine' eo_at ?h1); (case h1 => walk_at "ev")))
local macro_rules | `(tactic| walk_at "cd") => `(tactic| first
  | with_reducible exact cd_lenL | with_reducible exact cd_lenT | with_reducible exact cd_tupL | with_reducible exact cd_tupT | with_reducible exact cd_lstL | with_reducible exact cd_lstT | with_reducible exact cd_abs | with_reducible exact cd_int)
local macro_rules | `(tactic| walk_at "ev") => `(tactic| first
  | with_reducible exact ev_int | with_reducible exact ev_bl | with_reducible exact ev_str | with_reducible exact ev_non
  | ((with_reducible refine' ev_var ?h1 ?h2); (case h1 => exact rfl); (case h2 => walk_at "rep"))
  | ((with_reducible refine' ev_opD ?h1 ?h2 ?h3); (case h1 => walk_at "ev"); (case h2 => walk_at "ev"); (case h3 => walk_at "od"))
  | ((with_reducible refine' ev_tupD ?h1); (case h1 => walk_at "ea"))
  | ((with_reducible refine' ev_lstD ?h1); (case h1 => walk_at "ea"))
  | ((with_reducible refine' ev_revL ?h1); (case h1 => walk_at "ev"))
  | ((with_reducible refine' ev_slD ?h1 ?h2 ?h3 ?h4); (case h1 => walk_at "ev"); (case h2 => walk_at "eo"); (case h3 => walk_at "eo"); (case h4 => first | with_reducible exact sd_tup | with_reducible exact sd_list))
  | ((with_reducible refine' ev_cbD ?h1 ?h2); (case h1 => walk_at "ea"); (case h2 => walk_at "cd"))
  | ((with_reducible refine' ev_notV ?h1); (case h1 => walk_at "ev"))
  | assumption)
local macro_rules | `(tactic| walk_at "et") => `(tactic| first
  | ((with_reducible refine' et_testD ?h1); (case h1 => walk_at "ev"))
  | ((with_reducible refine' et_BD ?h1); (case h1 => walk_at "ev"))
  | ((with_reducible refine' et_notD ?h1); (case h1 => walk_at "et"))
  | ((with_reducible refine' et_andD ?h1 ?h2); (case h1 => walk_at "et"); (case h2 => intro _; walk_at "et"))
  | ((with_reducible refine' et_orD ?h1 ?h2); (case h1 => walk_at "et"); (case h2 => intro _; walk_at "et"))
  | assumption)
theorem tabs_stay {T : List (Addr × Str)} {H H' : Hp} (k : ∀ a o, H a = some o → (∀ ys, o ≠ .lst ys) → H' a = some o) (t : LamX.Tabs T H) : LamX.Tabs T H' := fun p hp => by
  obtain ⟨ps, h1, h2, h3⟩ := t p hp
  refine ⟨ps, k _ _ h1 nofun, h2, fun pos cv hc => ?_⟩
  obtain ⟨c, e1, e2⟩ := h3 pos cv hc
  exact ⟨c, e1, k _ _ e2 (fun ys z => by unfold LamX.CodeO at z; cases z)⟩
/-- the draws' two lists, the tables of code objects -/
def Md.law (h g : Addr) (T : List (Addr × Str)) : Md where
  fp := fun a => a = h ∨ a = g
  inv := fun H => drOk h g H ∧ LamX.Tabs T H
  tb := true
  loc := fun H H' e k ⟨d, t⟩ => ⟨(Md.draw h g).loc H H' e k d, tabs_stay k t⟩
  there := fun H ⟨⟨cs, n, h1, h2, _⟩, _⟩ a e => by
    rcases e with e | e
    · rw [e]; exact ⟨_, h1, (fun _ _ z => by cases z)⟩
    · rw [e]; exact ⟨_, h2, (fun _ _ z => by cases z)⟩
theorem Md.law_has {h g : Addr} {T : List (Addr × Str)} (ne : h ≠ g) : HasDr (Md.law h g T) h g :=
  ⟨ne, .inl rfl, .inr rfl, fun _ x => x.1, fun _ _ x _ k d => ⟨d, tabs_stay k x.2⟩⟩
/-- a mode in which the tables T may grow -/
structure HasTb (M : Md) (T : List (Addr × Str)) : Prop where
  tb : M.tb = true
  tabs : ∀ H, M.inv H → LamX.Tabs T H
  ext : ∀ H H', M.inv H → LamX.ExtN H H' → LamX.Tabs T H' → M.inv H'
theorem Md.law_tb {h g : Addr} {T : List (Addr × Str)} : HasTb (Md.law h g T) T :=
  ⟨rfl, fun _ x => x.2, fun H H' ⟨⟨cs, n, h1, h2, h3⟩, _⟩ e t => ⟨⟨cs, n, e _ _ h1 nofun, e _ _ h2 nofun, h3⟩, t⟩⟩
section
variable {K : PySem.W.Frag} {M : Md} {T : List (Addr × Str)} {σ : L2.St} {J H H1 : Hp} {P : PyData → Prop}
theorem tr_ext (hb : HasTb M T) (w : Wf M J H) (e : LamX.ExtN H H1) (t : LamX.Tabs T H1) : Tr M J H J H1 :=
  ⟨.refl _, fun a o h => e a o (w.jh a o h) fun ps z => w.nt hb.tb a ps (by rw [← z]; exact h), fun a o _ b h => e a o h (b hb.tb), hb.ext _ _ w.inv e t, fun _ _ _ _ n => n, fun a o b h => ⟨o, b, e a o h (b hb.tb)⟩, fun z => z⟩
/-- what a def makes of a lambda that it calls in a try: rows: the classes caught, what is told of each; "told" stands ahead of what comes back -/
def THeard (rows : List (Addr × Str)) : (XK → Hp → VK → Prop) → Hp → VK → Prop := fun tl H Q => ∃ Ech : XK,
  (∀ cls d H', Ech cls d H' → ∃ C s, (C, s) ∈ rows ∧ cls = .ref C ∧ ∃ dx v, d = some dx ∧ H' dx = some (.xd [("word", v)]) ∧ ∀ l, H' l = none → Q (.ref l) (upd H' l (.lst [.str s, v, .bl true]))) ∧
  tl Ech H fun v H' => ([.str "told", v] : List V).length ≤ sizeLine ∧ ∀ l, H' l = none → Q (.ref l) (upd H' l (.lst [.str "told", v]))
/-- such a call, where the lambda raises -/
theorem ev_heard {rows : List (Addr × Str)} {t : XK → TE} {Pe : Addr → Str → PyData → Prop} (hb : HasTb M T)
    (h : ∀ J1 H1, Wf M J1 H1 → Tr M J H J1 H1 → ∀ (E : XK) (Q : VK), (∀ C s dx v x J2 H2, Wf M J2 H2 → Tr M J1 H1 J2 H2 → (C, s) ∈ rows → Pe C s x → H2 dx = some (.xd [("word", v)]) → Da K J2 v x → E (.ref C) (some dx) H2) → t E σ H1 Q)
    (hP : ∀ C s x, Pe C s x → P (.list [.str s, x, .bool true])) : EvP K M (LamX.tLam T (THeard rows) t) σ J H P := fun J1 H1 w tr Q q => by
  refine ⟨hb.tabs _ w.inv, fun H2 e t2 => ?_⟩
  have tx := tr_ext hb w e t2
  have w2 := tx.wf w
  let Ech : XK := fun cls d H' => ∃ C s, (C, s) ∈ rows ∧ cls = .ref C ∧ ∃ dx v, d = some dx ∧ H' dx = some (.xd [("word", v)]) ∧ ∀ l, H' l = none → Q (.ref l) (upd H' l (.lst [.str s, v, .bl true]))
  refine ⟨Ech, fun _ _ _ z => z, h J1 H2 w2 (tr.trans tx) Ech _ fun C s dx v x J3 H3 w3 t3 hm hp hx a => ?_⟩
  refine ⟨C, s, hm, rfl, dx, v, rfl, hx, fun l hl => ?_⟩
  have t4 := w3.new (o := .lst [.str s, v, .bl true]) hl
  exact q _ _ _ _ (t4.wf w3) (tx.trans (t3.trans t4)) (hP C s x hp) (.lst upd_same (.cons (.str _) (.cons (t4.jj.da a) (.cons (.bl _) .nil))))
/-- a call that raises -/
theorem rd_callE {cl : Str → Addr} {fl : Str → Str} {pre : List PyData → Prop} {post : List PyData → PyData → Prop} {exc : List PyData → Str → PyData → Prop} {E : XK} {ta : TA} {ds : List PyData} {Q : VK} (w : Wf M J H) (h : EvA K M ta σ J H (· = ds)) (hp : pre ds) (hn : ∀ d, ¬ post ds d)
    (qe : ∀ c x dx v J1 H1, Wf M J1 H1 → Tr M J H J1 H1 → exc ds c x → H1 dx = some (.xd [(fl c, v)]) → Da K J1 v x → E (.ref (cl c)) (some dx) H1) : tCall (spX K cl fl pre post exc) [] E ta σ H Q :=
  h J H w w.tr _ fun vs ds' J1 H1 w1 t1 e a => by
    subst e
    show spX K cl fl pre post exc (vs ++ []) H1 Q E
    rw [List.append_nil]
    exact ⟨J1, _, w1.jh, a, hp, fun v d J' H' t p a' => (hn d p).elim, fun c x dx v J' H' t z hx a' => qe c x dx v J' H' ((w1.lift t).wf w1) (t1.trans (w1.lift t)) z hx a'⟩
end
/-! ### the def that hears -/
theorem passLam {X : Cx} {A : Around} {outer : List Env} {s : Shared} {H : Hp} {E : XK} {scope : Scope} {f c' : Addr} : Passes (L2.CX X.prog X.w) (LamX.lamCx X A outer s H E scope f c') E :=
  passes_call (takes_of rfl rfl rfl rfl) fun _ _ _ _ h => h
/-- all that a call of such a def with a lambda wants of it -/
structure Hears (X : Cx) (T : List (Addr × Str)) (k : Nat) (x a : Str) (TT : (XK → Hp → VK → Prop) → Hp → VK → Prop) : Prop where
  has : ∃ (g c P : Addr) (pg : Arguments) (bg : List Stmt) (sg : Scope) (dV kV doc pm cdv ct oc : Value) (an od : Option Addr) (osl : Array (Option Value)) (Ng : List Str), X.mg x = some (.ref g) ∧ PySem.W.keepIn X.K (.ref g) = true ∧
    X.K.lookup g = some ⟨oc, od, .func (PySem.W.fnOf x x pg bg sg dV kV doc pm an cdv ct), osl⟩ ∧ PySem.W.codeIn X.K cdv x = true ∧ L2.Binds X.K (PySem.W.fnOf x x pg bg sg dV kV doc pm an cdv ct) [a] [] ∧ FnScope Ng [a] sg ∧ Ng[0]? = some a ∧ Vis sg a ∧
    LamX.GivesTo X Ng x sg g cdv bg a (X.env.qual ++ "<lambda>") TT ∧ LamX.TabB X.base X.mg c P ∧ X.env.code = .ref c ∧ (P, X.env.qual ++ "<lambda>") ∈ T ∧ ∀ p ∈ T, p.1 = P → p.2 = X.env.qual ++ "<lambda>"
theorem xHears {X : Cx} {T : List (Addr × Str)} {k : Nat} {x a : Str} {TT : (XK → Hp → VK → Prop) → Hp → VK → Prop} {params : Arguments} {body : Expr} {scope : Scope} {t : XK → TE} {p lpos pos : Pos} (C : Hears X T k x a TT) (hr : Room (k + 2) X.A)
    (hbody : ∀ (A : Around) (outer : List Env) (s : Shared) (H : Hp) (E : XK) (f c' : Addr), Room k (A.deeper (LamX.lamEnv X scope s.heap.objs.size f c')) → PE (LamX.lamCx X A outer s H E scope f c') body (t E))
    (hg : Gl X x := by rfl) (L : LamX.lamSB X.env.scope scope = true := by decide +kernel) (hdef : defaultsOf params X.env = ([], []) := by rfl)
    (hbind : ∀ (q : Str) (cl : List (Str × Addr)) (pm cv ctv : Value), bindArgs (PySem.W.kla_fn "<lambda>" q params body scope cl pm cv ctv) ⟨[], []⟩ = pure [] := by intros; rfl)
    (hdb : (x == ("__debug__" : Str)) = false := by decide) (hd : (a == ("__debug__" : Str)) = false := by decide) (hcd : (a == ("__classdict__" : Str)) = false := by decide) : PE X (.Call (.Name x p) [.Lambda params body scope lpos] [] pos) (LamX.tLam T TT t) := by
  obtain ⟨g, c, P, pg, bg, sg, dV, kV, doc, pm, cdv, ct, oc, an, od, osl, Ng, hm, hk, lk, hcg, hb, Sg, hNg, hva, hG, TB, hcode, hmT, hu⟩ := C.has
  exact LamX.pe_lamcall hg hm hk lk hcg hb Sg hNg hva hG TB hcode hmT hu hr (LamX.lamS_by L) hdef hbind hbody hdb hd hcd
end DL

/-! A law's end where tables of code objects may grow; a def whose code object is known. -/
namespace DL
open PySem PySem.Spec
open PyProof.Rows L2
local macro_rules | `(tactic| walk_at "rep") => `(tactic| first | assumption | exact Da.int _ | exact Da.bl _ | exact Da.str _ | exact Da.non | exact Sub.da (by assumption) (by assumption) | exact Sub.da (Tr.jj (by assumption)) (by assumption))
local macro_rules | `(tactic| walk_at "arith") => `(tactic| first | assumption | omega | decide | exact cmul_small (by omega) (by omega) | exact cdiv_small (by omega) (by omega))
local macro_rules | `(tactic| walk_at "shp") => `(tactic| first | exact sh_int _ | exact sh_tup _ | exact sh_list _ | assumption)
local macro_rules | `(tactic| walk_at "od") => `(tactic| first
  | with_reducible exact od_plus
  | with_reducible exact od_sub
  | ((with_reducible refine' od_mul ?h1); walk_at "arith")
  | ((with_reducible refine' od_mod ?h1); walk_at "arith")
  | ((with_reducible refine' od_fdiv ?h1); walk_at "arith")
  | ((with_reducible refine' od_pow ?h1); exact ⟨by decide, by decide, by decide⟩)
  | with_reducible exact od_lt | with_reducible exact od_le | with_reducible exact od_gt | with_reducible exact od_ge
  | ((with_reducible refine' od_plusT ?h1); walk_at "arith")
  | ((with_reducible refine' od_plusL ?h1); walk_at "arith")
  | ((with_reducible refine' od_plusS ?h1); walk_at "arith")
  | with_reducible exact od_isN | with_reducible exact od_notN
  | ((with_reducible refine od_eq ?_ ?_) <;> walk_at "shp")
  | ((with_reducible refine od_ne ?_ ?_) <;> walk_at "shp")
  | ((with_reducible refine od_inL ?_ ?_) <;> walk_at "shp")
  | ((with_reducible refine od_ixL ?_); assumption)
  | ((with_reducible refine od_ixT ?_); assumption))
local macro_rules | `(tactic| walk_at "ea") => `(tactic| first | with_reducible exact ea_nil | ((with_reducible refine' ea_consD ?h1 ?h2); (case h1 => walk_at "ev"); (case h2 => walk_at "ea")))
local macro_rules | `(tactic| walk_at "eo") => `(tactic| first | with_reducible exact eo_none | ((with_reducible refine' eo_at ?h1); (case h1 => walk_at "ev")))
local macro_rules | `(tactic| walk_at "cd") => `(tactic| first
  | with_reducible exact cd_lenL | with_reducible exact cd_lenT | with_reducible exact cd_tupL | with_reducible exact cd_tupT | with_reducible exact cd_lstL | with_reducible exact cd_lstT | with_reducible exact cd_abs | with_reducible exact cd_int)
local macro_rules | `(tactic| walk_at "ev") => `(tactic| first
  | with_reducible exact ev_int | with_reducible exact ev_bl | with_reducible exact ev_str | with_reducible exact ev_non
  | ((with_reducible refine' ev_var ?h1 ?h2); (case h1 => exact rfl); (case h2 => walk_at "rep"))
  | ((with_reducible refine' ev_opD ?h1 ?h2 ?h3); (case h1 => walk_at "ev"); (case h2 => walk_at "ev"); (case h3 => walk_at "od"))
  | ((with_reducible refine' ev_tupD ?h1); (case h1 => walk_at "ea"))
  | ((with_reducible refine' ev_lstD ?h1); (case h1 => walk_at "ea"))
  | ((with_reducible refine' ev_revL ?h1); (case h1 => walk_at "ev"))
  | ((with_reducible refine' ev_slD ?h1 ?h2 ?h3 ?h4); (case h1 => walk_at "ev"); (case h2 => walk_at "eo"); (case h3 => walk_at "eo"); (case h4 => first | with_reducible exact sd_tup | with_reducible exact sd_list))
  | ((with_reducible refine' ev_cbD ?h1 ?h2); (case h1 => walk_at "ea"); (case h2 => walk_at "cd"))
  | ((with_reducible refine' ev_notV ?h1); (case h1 => walk_at "ev"))
  | assumption)
local macro_rules | `(tactic| walk_at "et") => `(tactic| first
  | ((with_reducible refine' et_testD ?h1); (case h1 => walk_at "ev"))
  | ((with_reducible refine' et_BD ?h1); (case h1 => walk_at "ev"))
  | ((with_reducible refine' et_notD ?h1); (case h1 => walk_at "et"))
  | ((with_reducible refine' et_andD ?h1 ?h2); (case h1 => walk_at "et"); (case h2 => intro _; walk_at "et"))
  | ((with_reducible refine' et_orD ?h1 ?h2); (case h1 => walk_at "et"); (case h2 => intro _; walk_at "et"))
  | assumption)
/-- what is known of a heap at the law's start: the script and empty tables -/
def OnlyT (tb : List Addr) (H : Hp) : Prop := (∀ P ∈ tb, H P = some (.tbl #[])) ∧ ∀ b, b ∉ tb → H b = none ∨ ∃ o xs, H b = some (.frz o (.lst xs))
section
variable {P : Program} {w : World} {K : PySem.W.Frag} {mg mb : Str → Option Value} {CX : CXT} {k : Nat} {fa a : Addr} {fd : FuncData} {x : Str} {sp : Sp} {s₀ : Shared} {vs : List Value} {ns : List Int} {cs : List (Addr × Addr)}
theorem law_onT {H : Hp} (KX : K.In s₀.heap) (hns : s₀.heap.Ns mainGlobals mg) (hb : s₀.heap.Ns builtinsNs mb) (hbb : ∀ y : Str, y ≠ "__name__" → mb y = bootBuiltins y) (hlim : s₀.heap.NoLimit) (hg : s₀.gens = #[])
    (hbm : ∃ (bm : Addr) (ob : Obj), mg "__builtins__" = some (.ref bm) ∧ bm ≠ builtinsNs ∧ s₀.heap.get? bm = some ob ∧ ob.cls = .type "module" ∧ ob.dict = some builtinsNs ∧ ob.data = .plain)
    (hT : ∀ p ∈ cs, s₀.heap.get? p.2 = some { cls := .none, data := .fields #[] }) (nT : ∀ p ∈ cs, K.lookup p.2 = none) (hC : ∀ p ∈ cs, PySem.W.codeHdIn K p.1 p.2 = true)
    (ha : s₀.heap.get? a = some { cls := .type "list", data := .seq vs.toArray }) (hr : Room k callerA)
    (F : ∀ base : Heap, K.In base → base.Ns mainGlobals mg → (∀ p ∈ cs, LamX.TabB base mg p.1 p.2) → FnG P w K mg base CX k fa fd [x] sp) (hbind : ∀ (s : Shared) (u : Value), BindsTo s fd ⟨[u], []⟩ [(x, u)]) (hsp : sp [.ref a] H (fun v _ => v = .bl true) fun _ _ _ => False) (hCX : ∀ e s', CX [] H s₀ (fun _ _ _ => False) e s' → False)
    (hO : OnlyT (cs.map (·.2)) H) (hok : HOk P w H s₀.heap) (alone : ∀ b, b ∉ cs.map (·.2) → b ≠ a ∨ K.lookup a ≠ none → H b = none) : codeAny (model P w) callerA (.call (.ref fa) ⟨[.ref a], []⟩) (Well s₀) s₀ := by
  have isT : ∀ b, b ∈ cs.map (·.2) → s₀.heap.get? b = some { cls := .none, data := .fields #[] } ∧ K.lookup b = none := fun b hb => by
    obtain ⟨p, hp, e⟩ := List.mem_map.mp hb
    exact ⟨by rw [← e]; exact hT p hp, by rw [← e]; exact nT p hp⟩
  have kn : ∀ {b : Addr} {o : Obj}, K.lookup b = some o → H b = none := fun {b o} e => by
    refine alone b (fun hb => ?_) ?_
    · rw [(isT b hb).2] at e; cases e
    · by_cases z : b = a
      · exact .inr (by rw [← z, e]; exact nofun)
      · exact .inl z
  -- what is neither a list nor a table is hidden from nobody
  have off : ∀ {b : Addr} {o : Obj}, s₀.heap.get? b = some o → (∀ u n, o.data ≠ .seq u n) → o.data ≠ .fields #[] → H b = none := fun {b o} e n1 n2 => by
    refine alone b (fun hb => ?_) (.inl fun z => ?_)
    · rw [(isT b hb).1] at e; cases e; exact n2 rfl
    · rw [z, ha] at e; cases e; exact n1 _ _ rfl
  have ns : ∀ {b : Addr} {m : Str → Option Value}, s₀.heap.Ns b m → (hidT s₀.heap H).Ns b m := by
    rintro b m ⟨o, es, ep, e, d, r⟩
    exact ⟨o, es, ep, hidT_get e (off e (fun u n z => by rw [d] at z; cases z) fun z => by rw [d] at z; cases z), d, r⟩
  have KB : K.In (hidT s₀.heap H) := fun b o e => hidT_get (KX b o e) (kn e)
  have TB : ∀ p ∈ cs, LamX.TabB (hidT s₀.heap H) mg p.1 p.2 := fun p hp => by
    have gm : ∀ {b : Addr}, s₀.heap.Ns b mg → b ≠ p.2 := fun {b} ⟨o, es, ep, e, d, _⟩ z => by
      rw [z, hT p hp] at e; cases e; cases d
    obtain ⟨bm, ob, b1, b2, b3, b4, b5, b6⟩ := hbm
    refine ⟨PySem.W.codeHd_of_K KB (hC p hp), ⟨bm, ob, b1, b2, fun z => ?_, fun z => ?_, hidT_get b3 (off b3 (fun u n z => by rw [b6] at z; cases z) fun z => by rw [b6] at z; cases z), b4, b5, b6⟩, gm hns⟩
    · obtain ⟨o, es, ep, e, d, _⟩ := hns
      rw [z, e] at b3; cases b3; rw [d] at b6; cases b6
    · rw [z, hT p hp] at b3; cases b3; cases b6
  have lim : (hidT s₀.heap H).NoLimit := hlim.elim fun mc z => ⟨mc, ns z.1, z.2⟩
  have env : Env0 P w K mg (hidT s₀.heap H) callerA [] s₀ H := ⟨rfl, ⟨KB, ns hns, ⟨mb, ns hb, hbb⟩, lim⟩, fun _ _ => of_hidT, Nat.le_of_eq (hidT_size _ _), trivial, nofun, hok, .of_eq hg⟩
  refine codeAny_mono ((F _ KB (ns hns) TB).go callerA [] s₀ H ⟨[.ref a], []⟩ [.ref a] [.ref a] _ _ rfl hr env (hbind s₀ (.ref a)) (.cons rfl .nil) hsp) ?_
  rintro (er | fl) s' told
  · exact (hCX er s' told).elim
  match fl, told with
  | .ret u, ⟨v, H', eo, gb, un, hok', rv, (ev : v = .bl true)⟩ =>
    subst ev
    obtain rfl : u = Value.bool true := rv
    have tabs : ∀ p ∈ cs, ∃ more : Array Value, s'.heap.get? p.2 = some { cls := .none, data := .fields more } := fun p hp => by
      obtain ⟨more, z⟩ := un.tbls p.2 #[] (hO.1 p.2 (List.mem_map.mpr ⟨p, hp, rfl⟩))
      exact ⟨_, hok' p.2 _ z⟩
    have rest : ∀ b o, b ∉ cs.map (·.2) → s₀.heap.get? b = some o → s'.heap.get? b = some o := fun b o nb e =>
      match hO.2 b nb with
      | .inl n => un.keep b o e n nofun nofun
      | .inr ⟨ob, xs, q⟩ => by
        obtain rfl : o = ob := Option.some.inj (e.symm.trans (hok b _ q).1)
        exact (hok' b _ (un.frzs b o _ q)).1
    refine ⟨rfl, ⟨fun b o e => ?_, fun b o e => ?_⟩, eo, gb⟩
    · by_cases hb : b ∈ cs.map (·.2)
      · obtain ⟨p, hp, ep⟩ := List.mem_map.mp hb
        obtain ⟨more, hm⟩ := tabs p hp
        rw [← ep] at e ⊢
        rw [hT p hp] at e
        cases e
        exact .inr (.inl ⟨((PySem.W.codeHd_of_K KX (hC p hp)).tab (hT p hp)).isCodeTable, rfl, #[], more, rfl, by rw [Array.empty_append]; exact hm⟩)
      · exact .inl (rest b o hb e)
    · by_cases hb : b ∈ cs.map (·.2)
      · obtain ⟨p, hp, ep⟩ := List.mem_map.mp hb
        obtain ⟨more, hm⟩ := tabs p hp
        rw [← ep]
        exact ⟨_, hm⟩
      · exact ⟨o, rest b o hb e⟩
/-- tables, and the script where it isn't known else -/
def loneT (tb : List Addr) (a : Addr) (r : Option HO) : Hp := fun b => if b ∈ tb then some (.tbl #[]) else if b = a then r else none
theorem law_gT (KX : K.In s₀.heap) (hns : s₀.heap.Ns mainGlobals mg) (hb : s₀.heap.Ns builtinsNs mb) (hbb : ∀ y : Str, y ≠ "__name__" → mb y = bootBuiltins y) (hlim : s₀.heap.NoLimit) (hg : s₀.gens = #[])
    (hbm : ∃ (bm : Addr) (ob : Obj), mg "__builtins__" = some (.ref bm) ∧ bm ≠ builtinsNs ∧ s₀.heap.get? bm = some ob ∧ ob.cls = .type "module" ∧ ob.dict = some builtinsNs ∧ ob.data = .plain)
    (hT : ∀ p ∈ cs, s₀.heap.get? p.2 = some { cls := .none, data := .fields #[] }) (nT : ∀ p ∈ cs, K.lookup p.2 = none) (hC : ∀ p ∈ cs, PySem.W.codeHdIn K p.1 p.2 = true)
    (ha : s₀.heap.get? a = some { cls := .type "list", data := .seq vs.toArray })
    (hi : IntsAre vs ns) (hl : ns.length ≤ sizeLine) (hr : Room k callerA) (F : ∀ base : Heap, K.In base → base.Ns mainGlobals mg → (∀ p ∈ cs, LamX.TabB base mg p.1 p.2) → FnG P w K mg base CX k fa fd [x] sp) (hbind : ∀ (s : Shared) (u : Value), BindsTo s fd ⟨[u], []⟩ [(x, u)])
    (hsp : ∀ H : Hp, OnlyT (cs.map (·.2)) H → SqL K H a (ns.map V.int) → sp [.ref a] H (fun v _ => v = .bl true) fun _ _ _ => False) (hCX : ∀ H e s', CX [] H s₀ (fun _ _ _ => False) e s' → False) : codeAny (model P w) callerA (.call (.ref fa) ⟨[.ref a], []⟩) (Well s₀) s₀ := by
  have rel := vals_ints hi
  have aT : a ∉ cs.map (·.2) := fun z => by
    obtain ⟨p, hp, e⟩ := List.mem_map.mp z
    have q := hT p hp
    have e' : p.2 = a := e
    rw [e', ha] at q
    cases q
  have inT : ∀ {r : Option HO} {b : Addr}, b ∈ cs.map (·.2) → loneT (cs.map (·.2)) a r b = some (.tbl #[]) := fun h => if_pos h
  have outT : ∀ {r : Option HO} {b : Addr}, b ∉ cs.map (·.2) → b ≠ a → loneT (cs.map (·.2)) a r b = none := fun h h2 => (if_neg h).trans (if_neg h2)
  have atA : ∀ {r : Option HO}, loneT (cs.map (·.2)) a r a = r := (if_neg aT).trans (if_pos rfl)
  have okT : ∀ {r : Option HO}, (∀ u, r = some u → ObjOk P w (loneT (cs.map (·.2)) a r) s₀.heap a u) → HOk P w (loneT (cs.map (·.2)) a r) s₀.heap := fun {r} hr b u z => by
    by_cases hb : b ∈ cs.map (·.2)
    · obtain rfl := Option.some.inj ((inT hb).symm.trans z)
      obtain ⟨p, hp, e⟩ := List.mem_map.mp hb
      rw [← e]
      exact hT p hp
    · by_cases e : b = a
      · subst e
        exact hr u (atA.symm.trans z)
      · exact nomatch (outT hb e).symm.trans z
  cases inK : K.lookup a with
  | some o =>
    obtain rfl : o = { cls := .type "list", data := .seq vs.toArray } := Option.some.inj ((KX a o inK).symm.trans ha)
    have O : OnlyT (cs.map (·.2)) (loneT (cs.map (·.2)) a none) := ⟨fun b hb => inT hb, fun b hb => by
      by_cases e : b = a
      · rw [e]; exact .inl atA
      · exact .inl (outT hb e)⟩
    refine law_onT KX hns hb hbb hlim hg hbm hT nT hC ha hr F hbind (hsp _ O (.inr ⟨_, vs.toArray, _, inK, rfl, rfl, rfl, by rw [List.size_toArray, hi.length]; exact hl, by simpa using rel⟩)) (hCX _) O (okT nofun) fun b hb _ => ?_
    by_cases e : b = a
    · rw [e]; exact atA
    · exact outT hb e
  | none =>
    have O : OnlyT (cs.map (·.2)) (loneT (cs.map (·.2)) a (some (.frz { cls := .type "list", data := .seq vs.toArray } (.lst (ns.map V.int))))) := ⟨fun b hb => inT hb, fun b hb => by
      by_cases e : b = a
      · rw [e]; exact .inr ⟨_, _, atA⟩
      · exact .inl (outT hb e)⟩
    refine law_onT KX hns hb hbb hlim hg hbm hT nT hC ha hr F hbind (hsp _ O (.inl (.inr ⟨_, atA⟩))) (hCX _) O (okT fun u z => ?_) fun b hb z => z.elim (outT hb) fun y => (y inK).elim
    obtain rfl := Option.some.inj z
    exact ⟨ha, Nat.le_trans (Nat.le_of_eq (List.length_map V.int)) hl, vs, _, rel, ha⟩
end
theorem walk_gT {l : PySem.W.OpenLaw} {n k : Nat} {q : Program} {loose : List Str} {XP : (Str → Option Value) → Heap → Prop} {YP : World → Heap → Prop} {d : DefRec} {CX : CXT} {x : Str} (hn : l.most = some n) (hn2 : n ≤ sizeLine) (hdf : d.params.defaults = []) (hr : Room k callerA)
    (F : ∀ (w : World) (mg : Str → Option Value) (fa : Addr) (h : Heap), YP w h → h.Ns mainGlobals mg → mg d.name = some (.ref fa) → ∃ (K : PySem.W.Frag) (fd : FuncData) (sp : Sp) (cs : List (Addr × Addr)), K.In h ∧ (∀ p ∈ cs, h.get? p.2 = some { cls := .none, data := .fields #[] }) ∧ (∀ p ∈ cs, K.lookup p.2 = none) ∧
      (∀ p ∈ cs, PySem.W.codeHdIn K p.1 p.2 = true) ∧ (∀ (s : Shared) (u : Value), BindsTo s fd ⟨[u], []⟩ [(x, u)]) ∧
      (∀ (H : Hp) (a : Addr) (ns : List Int), ns.length ≤ n → OnlyT (cs.map (·.2)) H → SqL K H a (ns.map V.int) → sp [.ref a] H (fun v _ => v = .bl true) fun _ _ _ => False) ∧ ∀ base : Heap, K.In base → base.Ns mainGlobals mg → (∀ p ∈ cs, LamX.TabB base mg p.1 p.2) → FnG l.prog w K mg base CX k fa fd [x] sp)
    (hCX : ∀ (H : Hp) (s : Shared) (e : Value) (s' : Shared), CX [] H s (fun _ _ _ => False) e s' → False) : PySem.W.WalkO q loose XP YP l.row.toRowW d [] (fun f vs => PySem.call f vs) :=
  Att.attach_call hn hdf fun w s₀ s₁ mg mb fa o pm cd doc a vs ns G Y ho hd hcd hmg hobj hints hlen hg => by
    have ⟨K, fd, sp, cs, KX, hT, nT, hC, hb, hsp, hF⟩ := F w mg fa s₁.heap Y G.T.g hmg
    exact law_gT KX G.T.g G.T.b G.T.builtins G.T.nolimit hg G.T.bmain hT nT hC hobj hints (Nat.le_trans hlen hn2) hr hF hb (fun H hO hS => hsp H a ns hlen hO hS) fun H e s' => hCX H s₁ e s'
/-- a def whose code object is known -/
theorem fn_gc {P : Program} {w : World} {K : PySem.W.Frag} {mg : Str → Option Value} {base : Heap} {CX : CXT} {k : Nat} {p : He.Defn} {fd : FuncData} {ps : List Str} {sp : Sp} {x qual : Str} {params : Arguments} {body : List Stmt} {scope : Scope} {dvs : List V} {kws : List (Str × V)} {N : List Str}
    (F : FunD K x qual params body scope dvs kws (He.fAd K p) fd) (S : FnScope N ps scope) (len : ∀ vs H Q E, sp vs H Q E → vs.length = ps.length)
    (hb : ∀ (A : Around) (out : List Env) (s : Shared) (H : Hp) (vs : List V) (Q : VK) (E : XK), A.guards = some [] → Room k (A.deeper (envOfC qual scope s.heap.objs.size (He.fAd K p) (.ref (He.codeOf K p)))) → sp vs H Q E →
      ∃ t, PSs (cxOf CX P w K mg base N qual scope (He.fAd K p) (.ref (He.codeOf K p)) A out s H E) body t ∧ t { nx := fun _ H' => Q .non H', rt := Q } (start N vs) H) : FnG P w K mg base CX (k + 1) (He.fAd K p) fd ps sp := by
  obtain ⟨oc, od, dV, kV, doc, pm, an, cdv, ct, osl, e, lk, hcd, _, _⟩ := F.ex
  subst e
  obtain ⟨c, rfl⟩ := He.codeIn_ref hcd
  have ec := He.codeOf_eq lk rfl
  subst ec
  refine ⟨len, fun A out s H ar us vs Q E g hr e0 bd r hsp => ?_⟩
  have KX : K.In s.heap := e0.mod.kin.keeps fun b o q => (e0.bs b o q).1
  have nl : s.heap.NoLimit := e0.mod.nolimit.keeps fun b o q => (e0.bs b o q).1
  have nk : ∀ y ∈ ps.zip us, scope.names.lookup y.1 = some .local ∨ (scope.names.lookup y.1 = some .cell ∧ ((cellsFrom (s.heap.objs.size + 1) scope.names []).lookup y.1).isSome = true) := by
    rintro ⟨n, v⟩ hy
    exact (S.par n (List.of_mem_zip hy).1).imp id fun q => ⟨q, PySem.W.cellsFrom_some _ _ _ (.inl q)⟩
  refine codeAny_call_function hr.depth (KX _ _ lk) rfl S.co S.gen rfl (PySem.W.codeRec_of KX hcd) (bd _ _ _ _ (wpAny_newFunctionEnv_cells S.kind nk fun env he s1 x => ?_))
  cases he
  refine ⟨nl.keeps x.toInCall.keep, codeAny_func ?_⟩
  obtain ⟨t, ht, hq⟩ := hb A out s H vs Q E g (hr.deeper _) hsp
  refine wpAny_mono (ht.run [] s1 (start N vs) H _ (inv_start S hr.hd e0 (len _ _ _ _ hsp) r x) hq) (fun fl s' hs => ?_) fun _ _ z => z
  cases fl with
  | ret u => obtain ⟨v, σ', H', I, rv, q⟩ := hs; exact ⟨v, H', I.os, I.bare, I.base, I.hok, rv, q⟩
  | next => obtain ⟨σ', H', I, q⟩ := hs; exact ⟨V.non, H', I.os, I.bare, I.base, I.hok, rfl, q⟩
  | brk => exact hs.elim fun _ h => h.elim fun _ h => h.2.elim
  | cont => exact hs.elim fun _ h => h.elim fun _ h => h.2.elim
theorem hears_of {X : Cx} {T : List (Addr × Str)} {k : Nat} {x a : Str} {TT : (XK → Hp → VK → Prop) → Hp → VK → Prop} {g c P : Addr} {pg : Arguments} {bg : List Stmt} {sg : Scope} {fd : FuncData} {Ng : List Str} (F : FunD X.K x x pg bg sg [] [] g fd) (hm : X.mg x = some (.ref g)) (hb : L2.Binds X.K fd [a] [])
    (Sg : FnScope Ng [a] sg) (hNg : Ng[0]? = some a) (hva : Vis sg a) (hG : ∀ cdg : Value, LamX.GivesTo X Ng x sg g cdg bg a (X.env.qual ++ "<lambda>") TT) (TB : LamX.TabB X.base X.mg c P) (hcode : X.env.code = .ref c) (hmT : (P, X.env.qual ++ "<lambda>") ∈ T)
    (hu : ∀ p ∈ T, p.1 = P → p.2 = X.env.qual ++ "<lambda>") : Hears X T k x a TT := by
  obtain ⟨oc, od, dV, kV, doc, pm, an, cdv, ct, osl, e, lk, hcd, _, _⟩ := F.ex
  subst e
  exact ⟨g, c, P, pg, bg, sg, dV, kV, doc, pm, cdv, ct, oc, an, od, osl, Ng, hm, F.kp, lk, hcd, hb, Sg, hNg, hva, hG cdv, TB, hcode, hmT, hu⟩
end DL

/-! isinstance of what was caught, yes or no. -/
namespace DL
open PySem PySem.Spec
open PyProof.Rows L2
local macro_rules | `(tactic| walk_at "rep") => `(tactic| first | assumption | exact Da.int _ | exact Da.bl _ | exact Da.str _ | exact Da.non | exact Sub.da (by assumption) (by assumption) | exact Sub.da (Tr.jj (by assumption)) (by assumption))
local macro_rules | `(tactic| walk_at "arith") => `(tactic| first | assumption | omega | decide | exact cmul_small (by omega) (by omega) | exact cdiv_small (by omega) (by omega))
local macro_rules | `(tactic| walk_at "shp") => `(tactic| first | exact sh_int _ | exact sh_tup _ | exact sh_list _ | assumption)
local macro_rules | `(tactic| walk_at "od") => `(tactic| first
  | with_reducible exact od_plus
  | with_reducible exact od_sub
  | ((with_reducible refine' od_mul ?h1); walk_at "arith")
  | ((with_reducible refine' od_mod ?h1); walk_at "arith")
  | ((with_reducible refine' od_fdiv ?h1); walk_at "arith")
  | ((with_reducible refine' od_pow ?h1); exact ⟨by decide, by decide, by decide⟩)
  | with_reducible exact od_lt | with_reducible exact od_le | with_reducible exact od_gt | with_reducible exact od_ge
  | ((with_reducible refine' od_plusT ?h1); walk_at "arith")
  | ((with_reducible refine' od_plusL ?h1); walk_at "arith")
  | ((with_reducible refine' od_plusS ?h1); walk_at "arith")
  | with_reducible exact od_isN | with_reducible exact od_notN
  | ((with_reducible refine od_eq ?_ ?_) <;> walk_at "shp")
  | ((with_reducible refine od_ne ?_ ?_) <;> walk_at "shp")
  | ((with_reducible refine od_inL ?_ ?_) <;> walk_at "shp")
  | ((with_reducible refine od_ixL ?_); assumption)
  | ((with_reducible refine od_ixT ?_); assumption))
local macro_rules | `(tactic| walk_at "ea") => `(tactic| first | with_reducible exact ea_nil | ((with_reducible refine' ea_consD ?h1 ?h2); (case h1 => walk_at "ev"); (case h2 => walk_at "ea")))
local macro_rules | `(tactic| walk_at "eo") => `(tactic| first | with_reducible exact eo_none | ((with_reducible refine' eo_at ?h1); (case h1 => walk_at "ev")))
local macro_rules | `(tactic| walk_at "cd") => `(tactic| first
  | with_reducible exact cd_lenL | with_reducible exact cd_lenT | with_reducible exact cd_tupL | with_reducible exact cd_tupT | with_reducible exact cd_lstL | with_reducible exact cd_lstT | with_reducible exact cd_abs | with_reducible exact cd_int)
local macro_rules | `(tactic| walk_at "ev") => `(tactic| first
  | with_reducible exact ev_int | with_reducible exact ev_bl | with_reducible exact ev_str | with_reducible exact ev_non
  | ((with_reducible refine' ev_var ?h1 ?h2); (case h1 => exact rfl); (case h2 => walk_at "rep"))
  | ((with_reducible refine' ev_opD ?h1 ?h2 ?h3); (case h1 => walk_at "ev"); (case h2 => walk_at "ev"); (case h3 => walk_at "od"))
  | ((with_reducible refine' ev_tupD ?h1); (case h1 => walk_at "ea"))
  | ((with_reducible refine' ev_lstD ?h1); (case h1 => walk_at "ea"))
  | ((with_reducible refine' ev_revL ?h1); (case h1 => walk_at "ev"))
  | ((with_reducible refine' ev_slD ?h1 ?h2 ?h3 ?h4); (case h1 => walk_at "ev"); (case h2 => walk_at "eo"); (case h3 => walk_at "eo"); (case h4 => first | with_reducible exact sd_tup | with_reducible exact sd_list))
  | ((with_reducible refine' ev_cbD ?h1 ?h2); (case h1 => walk_at "ea"); (case h2 => walk_at "cd"))
  | ((with_reducible refine' ev_notV ?h1); (case h1 => walk_at "ev"))
  | assumption)
local macro_rules | `(tactic| walk_at "et") => `(tactic| first
  | ((with_reducible refine' et_testD ?h1); (case h1 => walk_at "ev"))
  | ((with_reducible refine' et_BD ?h1); (case h1 => walk_at "ev"))
  | ((with_reducible refine' et_notD ?h1); (case h1 => walk_at "et"))
  | ((with_reducible refine' et_andD ?h1 ?h2); (case h1 => walk_at "et"); (case h2 => intro _; walk_at "et"))
  | ((with_reducible refine' et_orD ?h1 ?h2); (case h1 => walk_at "et"); (case h2 => intro _; walk_at "et"))
  | assumption)
/-- isinstance(e, c), e what the suite holds: its class D keeps a dict -/
def rIsA (K : PySem.W.Frag) (cls : Value) (d : Option Addr) (a : Addr) : List V → Hp → VK → Prop := fun xs H Q => ∃ (D dx : Addr) (fs : List (Str × V)) (c : V) (cv : Value) (b : Bool), cls = .ref D ∧ d = some dx ∧ H dx = some (.xd fs) ∧ L2.ExcC K D ∧ xs = [.ref a, c] ∧ (∀ u, RelV c u → u = cv) ∧ PySem.W.kitOne K (.ref D) cv = some b ∧ Q (.bl b) H
theorem call_isA {X : Cx} {a : Addr} {cls : Value} {d : Option Addr} {oe : Obj} {pn : List (Addr × Obj)} (hz : Zc cls d oe) (hf : ∃ vs, oe.data = .fields vs) : CallR (X.suite a ((a, oe) :: pn)) (.builtin "isinstance") (rIsA X.K cls d a) := by
  rintro pins s σ H xs us Q I r ⟨D, dx, fs, c, cv, b, rfl, rfl, hx, C, rfl, hcv, e, q⟩
  obtain ⟨u1, u2, rfl, r1, r2⟩ := vals2 r
  cases (show u1 = Value.ref a from r1)
  obtain rfl := hcv _ r2
  obtain ⟨at_, _⟩ := I.pin (a, oe) (List.mem_append.mpr (.inl List.mem_cons_self))
  obtain ⟨vs, hv⟩ := hf
  obtain ⟨mA, ⟨od, es, ep, eo, _⟩, _⟩ := (I.hok dx _ hx : ∃ mA, s.heap.Ns1 dx mA ∧ ∀ f, RelO (fs.lookup f) (mA f))
  have J : PySem.W.InstAt s.heap a oe D (some od) := by
    obtain ⟨oc, odi, oda, osl⟩ := oe
    obtain ⟨h1, h2⟩ := hz
    dsimp only at h1 h2 hv
    subst h1 h2 hv
    exact ⟨at_, rfl, rfl, eo⟩
  have hcl : (PySem.W.clsIn X.K D).isSome = true := by
    obtain ⟨cd, hc, _⟩ := PySem.W.any_some C.hd
    rw [hc]; rfl
  exact PySem.W.kia_one (PySem.W.kitx_exc hcl C.hg C.hk C.hs C.ha C.hn C.ht C.hm) I.kIn J e (fun z => nomatch z) fun tk => ⟨.bl b, H, I.kept (t' := tk) fun _ _ z => z, rfl, q⟩
end DL

/-! A dict of defs that stands in the module: what it holds at a text; a call of a local name that holds one of several defs. -/
namespace DL
open PySem PySem.Spec
open PyProof.Rows L2
local macro_rules | `(tactic| walk_at "rep") => `(tactic| first | assumption | exact Da.int _ | exact Da.bl _ | exact Da.str _ | exact Da.non | exact Sub.da (by assumption) (by assumption) | exact Sub.da (Tr.jj (by assumption)) (by assumption))
local macro_rules | `(tactic| walk_at "arith") => `(tactic| first | assumption | omega | decide | exact cmul_small (by omega) (by omega) | exact cdiv_small (by omega) (by omega))
local macro_rules | `(tactic| walk_at "shp") => `(tactic| first | exact sh_int _ | exact sh_tup _ | exact sh_list _ | assumption)
local macro_rules | `(tactic| walk_at "od") => `(tactic| first
  | with_reducible exact od_plus
  | with_reducible exact od_sub
  | ((with_reducible refine' od_mul ?h1); walk_at "arith")
  | ((with_reducible refine' od_mod ?h1); walk_at "arith")
  | ((with_reducible refine' od_fdiv ?h1); walk_at "arith")
  | ((with_reducible refine' od_pow ?h1); exact ⟨by decide, by decide, by decide⟩)
  | with_reducible exact od_lt | with_reducible exact od_le | with_reducible exact od_gt | with_reducible exact od_ge
  | ((with_reducible refine' od_plusT ?h1); walk_at "arith")
  | ((with_reducible refine' od_plusL ?h1); walk_at "arith")
  | ((with_reducible refine' od_plusS ?h1); walk_at "arith")
  | with_reducible exact od_isN | with_reducible exact od_notN
  | ((with_reducible refine od_eq ?_ ?_) <;> walk_at "shp")
  | ((with_reducible refine od_ne ?_ ?_) <;> walk_at "shp")
  | ((with_reducible refine od_inL ?_ ?_) <;> walk_at "shp")
  | ((with_reducible refine od_ixL ?_); assumption)
  | ((with_reducible refine od_ixT ?_); assumption))
local macro_rules | `(tactic| walk_at "ea") => `(tactic| first | with_reducible exact ea_nil | ((with_reducible refine' ea_consD ?h1 ?h2); (case h1 => walk_at "ev"); (case h2 => walk_at "ea")))
local macro_rules | `(tactic| walk_at "eo") => `(tactic| first | with_reducible exact eo_none | ((with_reducible refine' eo_at ?h1); (case h1 => walk_at "ev")))
local macro_rules | `(tactic| walk_at "cd") => `(tactic| first
  | with_reducible exact cd_lenL | with_reducible exact cd_lenT | with_reducible exact cd_tupL | with_reducible exact cd_tupT | with_reducible exact cd_lstL | with_reducible exact cd_lstT | with_reducible exact cd_abs | with_reducible exact cd_int)
local macro_rules | `(tactic| walk_at "ev") => `(tactic| first
  | with_reducible exact ev_int | with_reducible exact ev_bl | with_reducible exact ev_str | with_reducible exact ev_non
  | ((with_reducible refine' ev_var ?h1 ?h2); (case h1 => exact rfl); (case h2 => walk_at "rep"))
  | ((with_reducible refine' ev_opD ?h1 ?h2 ?h3); (case h1 => walk_at "ev"); (case h2 => walk_at "ev"); (case h3 => walk_at "od"))
  | ((with_reducible refine' ev_tupD ?h1); (case h1 => walk_at "ea"))
  | ((with_reducible refine' ev_lstD ?h1); (case h1 => walk_at "ea"))
  | ((with_reducible refine' ev_revL ?h1); (case h1 => walk_at "ev"))
  | ((with_reducible refine' ev_slD ?h1 ?h2 ?h3 ?h4); (case h1 => walk_at "ev"); (case h2 => walk_at "eo"); (case h3 => walk_at "eo"); (case h4 => first | with_reducible exact sd_tup | with_reducible exact sd_list))
  | ((with_reducible refine' ev_cbD ?h1 ?h2); (case h1 => walk_at "ea"); (case h2 => walk_at "cd"))
  | ((with_reducible refine' ev_notV ?h1); (case h1 => walk_at "ev"))
  | assumption)
local macro_rules | `(tactic| walk_at "et") => `(tactic| first
  | ((with_reducible refine' et_testD ?h1); (case h1 => walk_at "ev"))
  | ((with_reducible refine' et_BD ?h1); (case h1 => walk_at "ev"))
  | ((with_reducible refine' et_notD ?h1); (case h1 => walk_at "et"))
  | ((with_reducible refine' et_andD ?h1 ?h2); (case h1 => walk_at "et"); (case h2 => intro _; walk_at "et"))
  | ((with_reducible refine' et_orD ?h1 ?h2); (case h1 => walk_at "et"); (case h2 => intro _; walk_at "et"))
  | assumption)
section
variable {X : Cx} {d : Addr} {es : Array DictEntry} {n : Nat}
def rIxD (K : PySem.W.Frag) (d : Addr) : R2 := fun x y H Q => ∃ (z : Str) (u0 : Value) (v0 : V), x = .ref d ∧ y = .str z ∧ PySem.W.nsIn K d z = some (some u0) ∧ RelV v0 u0 ∧ Q v0 H
theorem ix_kd (D : KDict X.K X.w d es n) : IxR X (rIxD X.K d) := by
  intro value slice pins s σ H x y v u Q I rx ry h hs
  obtain ⟨z, u0, v0, rfl, rfl, e, r, q⟩ := h
  cases rx
  obtain ⟨t, rfl⟩ := ry
  exact tail_any (kd_type D I) PySem.F.slot_dict_getitem.lookup (wpAny_getItem_of (PySem.strKind_is X.prog X.w z t) (PySem.W.mapOf_K (prog := X.prog) I.kIn D.at_ D.lit) (PySem.W.find_K D.at_ e) ⟨v0, H, I.tok _, r, q⟩) hs
end
/-- a call of the def that the i-th slot holds, one of those that S knows -/
def tCallV (i : Nat) (S : Addr → Sp → Prop) (E : XK) (t : TA) : TE := fun σ H Q => ∃ f sp, σ[i]? = some (some (.ref f)) ∧ S f sp ∧ t σ H fun vs H1 => sp vs H1 Q E
theorem xCallV {X : Cx} {CX : CXT} {k i : Nat} {S : Addr → Sp → Prop} {E : XK} {x : Str} {p pos : Pos} {e : Expr} {es : List Expr} {t : TA} (A : ∀ f sp, S f sp → ∃ (fd : FuncData) (ps : List Str), FnOk X.prog X.w X.K X.mg X.base CX k f fd ps sp ∧ PySem.W.keepIn X.K (.ref f) = true ∧ Binds X.K fd ps []) (hr : Room k X.A) (hx : Passes CX X E)
    (hN : X.N[i]? = some x) (hv : Vis X.env.scope x) (ha : PA X (e :: es) t) (hdb : (x == ("__debug__" : Str)) = false := by decide) (hcd : (x == ("__classdict__" : Str)) = false := by decide)
    (he : starEach (e :: es) X.env = (false, eval e X.env) :: starEach es X.env := by rfl) (hpl : (backTo pos (starEach es X.env)).any (·.1) = false := by rfl) : PE X (.Call (.Name x p) (e :: es) [] pos) (tCallV i S E t) := by
  refine ⟨fun pins s σ H Q I h => ?_⟩
  obtain ⟨f, sp, hs, hS, ht⟩ := h
  obtain ⟨fd, ps, F, hk, hb⟩ := A f sp hS
  refine (pe_callL (dvs := []) (ds := []) F hr hN hv hk hb .nil hx ha hdb hcd he hpl).run pins s σ H Q I ⟨hs, ?_⟩
  have e0 : (fun (vs : List V) (H1 : Hp) => sp (vs ++ []) H1 Q E) = fun vs H1 => sp vs H1 Q E := by
    funext vs H1
    rw [List.append_nil]
  show t σ H (fun vs H1 => sp (vs ++ []) H1 Q E)
  rw [e0]
  exact ht
end DL

/-! What a def does, told in data alone: the heap is hidden. -/
namespace DW
open PySem PySem.Spec
open PyProof.Rows L2 DL
/-- what a slot holds: a datum; a list of one's own, which may still grow; the draws; anything else -/
inductive SV where
  | d (x : PyData) | own (xs : List PyData) | drw | raw (v : V)
abbrev Sl := List (Option SV)
/-- what an expression gives: a datum; what the i-th slot holds; anything else -/
inductive EV where
  | d (x : PyData) | at (i : Nat) | raw (v : V)
/-- at p nothing stood that is kept -/
def NewP (M : Md) (H0 : Hp) (p : Addr) : Prop := ∀ o, Nt M o → H0 p ≠ some o
section
variable {M : Md} {J H J1 H1 : Hp} {p : Addr}
theorem nofp' (w : Wf M J H) (h : NewP M H p) : ¬ M.fp p := fun q => by
  obtain ⟨o, e, b⟩ := M.there H w.inv p q
  exact h o b e
theorem put' {xs zs : List V} (w : Wf M J H) (t : Tr M J H J1 H1) (e1 : H1 p = some (.lst xs)) (hp : NewP M H p) (jp : J1 p = none) : Tr M J H J1 (upd H1 p (.lst zs)) := by
  have st : ∀ a x, H1 a = some x → (∀ ys, x ≠ .lst ys) → upd H1 p (.lst zs) a = some x := fun a x e ne => by
    by_cases h : a = p
    · rw [h, e1] at e; exact absurd (Option.some.inj e).symm (ne _)
    · rw [upd_ne h]; exact e
  have ne : ∀ {a x}, Nt M x → H a = some x → a ≠ p := fun {a x} b e z => hp x b (by rw [← z]; exact e)
  refine ⟨t.jj, fun a x e => ?_, fun a x n b e => ?_, M.loc _ _ (fun a q => upd_ne fun e => nofp' w hp (by rw [← e]; exact q)) st t.inv, t.frn, fun a q b e => ?_, t.tn⟩
  · rw [upd_ne (ne_of_none e jp)]; exact t.jh a x e
  · rw [upd_ne (ne b e)]; exact t.kept a x n b e
  · rw [upd_ne (ne b e)]; exact t.aln a q b e
theorem ice' {o : HO} (t : Tr M J H J1 H1) (hp : NewP M H p) (jp : J1 p = none) (e : H1 p = some o) (nt : ∀ ps, o ≠ .tbl ps := by first | assumption | (intro _ z; cases z; done)) : Tr M J H (upd J1 p o) H1 := by
  refine ⟨t.jj.trans (.new jp), fun a x q => ?_, t.kept, t.inv, fun a x b q n => ?_, t.aln, fun g a ps q => ?_⟩
  · by_cases h : a = p
    · rw [h, upd_same] at q; cases q; rw [h]; exact e
    · rw [upd_ne h] at q; exact t.jh a x q
  · rw [upd_ne fun z => hp x b (by rw [← z]; exact q)]; exact t.frn a x b q n
  · by_cases h : a = p
    · rw [h, upd_same] at q; exact nt ps (Option.some.inj q)
    · rw [upd_ne h] at q; exact t.tn g a ps q
end
section
variable (K : PySem.W.Frag) (M : Md)
def Vs (H0 J H : Hp) (v : V) : SV → Prop
  | .d x => Da K J v x
  | .own xs => ∃ p vs, v = .ref p ∧ H p = some (.lst vs) ∧ Das K J vs xs ∧ J p = none ∧ NewP M H0 p
  | .drw => ∃ h g, v = .ref h ∧ HasDr M h g
  | .raw u => v = u
structure Fr (J0 H0 : Hp) (Pr : List (Addr × HO)) (s : Sl) (σ : L2.St) (J H : Hp) : Prop where
  w0 : Wf M J0 H0
  tr : Tr M J0 H0 J H
  len : σ.length = s.length
  at_ : ∀ (i : Nat) (x : SV), s[i]? = some (some x) → ∃ v, σ[i]? = some (some v) ∧ Vs K M H0 J H v x
  sep : ∀ (i j : Nat) (xs ys : List PyData) (p : Addr), s[i]? = some (some (.own xs)) → s[j]? = some (some (.own ys)) → σ[i]? = some (some (.ref p)) → σ[j]? = some (some (.ref p)) → i = j
  prt : ∀ q ∈ Pr, H q.1 = some q.2 ∧ J q.1 = none ∧ NewP M H0 q.1 ∧ (∃ xs, q.2 = .lst xs) ∧ ∀ (i : Nat) (xs : List PyData), s[i]? = some (some (.own xs)) → σ[i]? ≠ some (some (.ref q.1))
  pn : (Pr.map Prod.fst).Nodup
def Ve (J : Hp) (σ : L2.St) (v : V) : EV → Prop
  | .d x => Da K J v x
  | .at i => σ[i]? = some (some v)
  | .raw u => v = u
/-- v is read as x now -/
def Dq (J H : Hp) (v : V) (x : PyData) : Prop := Da K J v x ∨ ∃ p vs xs, v = .ref p ∧ x = .list xs ∧ H p = some (.lst vs) ∧ Das K J vs xs
end
section
variable {K : PySem.W.Frag} {M : Md} {J0 H0 J H J1 H1 J' H' : Hp} {Pr : List (Addr × HO)} {s : Sl} {σ : L2.St} {v : V} {x : PyData} {i k : Nat} {p : Addr}
theorem Fr.wf (f : Fr K M J0 H0 Pr s σ J H) : Wf M J H := f.tr.wf f.w0
theorem Fr.step (f : Fr K M J0 H0 Pr s σ J H) (t : Tr M J H J1 H1) : Fr K M J0 H0 Pr s σ J1 H1 := by
  refine ⟨f.w0, f.tr.trans t, f.len, fun i x e => ?_, f.sep, fun q hq => ?_, f.pn⟩
  rotate_left
  · obtain ⟨h1, h2, h3, ⟨xs, h4⟩, h5⟩ := f.prt q hq
    rw [h4] at h1 ⊢
    exact ⟨t.keep q.1 _ (nofp' f.w0 h3) h1, t.cellj h1 h2, h3, ⟨xs, rfl⟩, h5⟩
  obtain ⟨v, hv, h⟩ := f.at_ i x e
  refine ⟨v, hv, ?_⟩
  cases x with
  | d x => exact t.jj.da h
  | own xs =>
    obtain ⟨p, vs, rfl, hp, a, jp, h0⟩ := h
    exact ⟨p, vs, rfl, t.keep p _ (nofp' f.w0 h0) hp, t.jj.das a, t.cellj hp jp, h0⟩
  | drw => exact h
  | raw u => exact h
theorem Fr.none_ (f : Fr K M J0 H0 Pr s σ J H) (h : s.length ≤ i) : σ[i]? = none := List.getElem?_eq_none_iff.mpr (by rw [f.len]; exact h)
theorem set_get {α : Type} {l : List (Option α)} {k j : Nat} {o : Option α} {x : α} (e : (l.set k o)[j]? = some (some x)) : (j = k ∧ o = some x) ∨ (j ≠ k ∧ l[j]? = some (some x)) := by
  by_cases h : j = k
  · subst h
    rw [List.getElem?_set_self'] at e
    cases q : l[j]? with
    | none => rw [q] at e; cases e
    | some y => rw [q] at e; exact .inl ⟨rfl, Option.some.inj e⟩
  · rw [List.getElem?_set_ne (Ne.symm h)] at e
    exact .inr ⟨h, e⟩
theorem set_lt {α : Type} {l : List α} {k j : Nat} {o y : α} (e : (l.set k o)[j]? = some y) : j < l.length := by
  have := (List.getElem?_eq_some_iff.mp e).1
  rwa [List.length_set] at this
theorem Fr.put (f : Fr K M J0 H0 Pr s σ J H) (h : Vs K M H0 J H v y) (no : ∀ xs, y ≠ .own xs) : Fr K M J0 H0 Pr (s.set k (some y)) (σ.set k (some v)) J H := by
  refine ⟨f.w0, f.tr, by simp [f.len], fun i x e => ?_, fun i j xs ys p e1 e2 e3 e4 => ?_, fun q hq => ?_, f.pn⟩
  rotate_left 2
  · obtain ⟨h1, h2, h3, h4, h5⟩ := f.prt q hq
    refine ⟨h1, h2, h3, h4, fun i xs e => ?_⟩
    rcases set_get e with ⟨_, e'⟩ | ⟨n1, e'⟩
    · cases e'; exact absurd rfl (no _)
    · rw [List.getElem?_set_ne (Ne.symm n1)]; exact h5 i xs e'
  · have hl := set_lt e
    rcases set_get e with ⟨rfl, e'⟩ | ⟨ne, e'⟩
    · cases e'
      exact ⟨v, by rw [List.getElem?_set_self (by rw [f.len]; exact hl)], h⟩
    · obtain ⟨u, hu, a⟩ := f.at_ i x e'
      exact ⟨u, by rw [List.getElem?_set_ne (Ne.symm ne)]; exact hu, a⟩
  · rcases set_get e1 with ⟨rfl, e⟩ | ⟨n1, e1⟩
    · cases e; exact absurd rfl (no _)
    rcases set_get e2 with ⟨rfl, e⟩ | ⟨n2, e2⟩
    · cases e; exact absurd rfl (no _)
    rw [List.getElem?_set_ne (Ne.symm n1)] at e3
    rw [List.getElem?_set_ne (Ne.symm n2)] at e4
    exact f.sep i j xs ys p e1 e2 e3 e4
theorem Fr.set (f : Fr K M J0 H0 Pr s σ J H) (h : Da K J v x) : Fr K M J0 H0 Pr (s.set k (some (.d x))) (σ.set k (some v)) J H := f.put (y := .d x) h nofun
/-- a slot is emptied, as far as is known -/
theorem Fr.drop (f : Fr K M J0 H0 Pr s σ J H) (o : Option V) : Fr K M J0 H0 Pr (s.set k none) (σ.set k o) J H := by
  refine ⟨f.w0, f.tr, by simp [f.len], fun i x e => ?_, fun i j xs ys p e1 e2 e3 e4 => ?_, fun q hq => ?_, f.pn⟩
  rotate_left 2
  · obtain ⟨h1, h2, h3, h4, h5⟩ := f.prt q hq
    refine ⟨h1, h2, h3, h4, fun i xs e => ?_⟩
    rcases set_get e with ⟨_, e'⟩ | ⟨n1, e'⟩
    · cases e'
    · rw [List.getElem?_set_ne (Ne.symm n1)]; exact h5 i xs e'
  · rcases set_get e with ⟨rfl, e'⟩ | ⟨ne, e'⟩
    · cases e'
    · obtain ⟨u, hu, a⟩ := f.at_ i x e'
      exact ⟨u, by rw [List.getElem?_set_ne (Ne.symm ne)]; exact hu, a⟩
  · rcases set_get e1 with ⟨_, e⟩ | ⟨n1, e1⟩
    · cases e
    rcases set_get e2 with ⟨_, e⟩ | ⟨n2, e2⟩
    · cases e
    rw [List.getElem?_set_ne (Ne.symm n1)] at e3
    rw [List.getElem?_set_ne (Ne.symm n2)] at e4
    exact f.sep i j xs ys p e1 e2 e3 e4
theorem Fr.own (f : Fr K M J0 H0 Pr s σ J H) {xs : List PyData} (e : s[i]? = some (some (.own xs))) : ∃ p vs, σ[i]? = some (some (.ref p)) ∧ H p = some (.lst vs) ∧ Das K J vs xs ∧ J p = none ∧ NewP M H0 p := by
  obtain ⟨v, hv, p, vs, rfl, h⟩ := f.at_ i _ e
  exact ⟨p, vs, hv, h⟩
theorem fr_other (f : Fr K M J0 H0 Pr s σ J H) {xs ys : List PyData} {q : Addr} (ne : k ≠ i) (e : s[i]? = some (some (.own xs))) (hp : σ[i]? = some (some (.ref p))) (e2 : s[k]? = some (some (.own ys))) (hq : σ[k]? = some (some (.ref q))) : q ≠ p := fun z => ne (f.sep k i ys xs p e2 e (by rw [← z]; exact hq) hp)
theorem set_id {α : Type} {l : List (Option α)} {k : Nat} {x : α} (h : l[k]? = some (some x)) : l.set k (some x) = l := by
  obtain ⟨h1, h2⟩ := List.getElem?_eq_some_iff.mp h
  rw [← h2]
  exact List.set_getElem_self h1
/-- a list of one's own is left as it is for good -/
theorem Fr.ice (f : Fr K M J0 H0 Pr s σ J H) {xs : List PyData} (e : s[i]? = some (some (.own xs))) : ∃ J' v, σ[i]? = some (some v) ∧ Sub J J' ∧ Da K J' v (.list xs) ∧ Fr K M J0 H0 Pr (s.set i (some (.d (.list xs)))) σ J' H := by
  obtain ⟨p, vs, hp, hH, a, jp, h0⟩ := f.own e
  have t := ice' f.tr h0 jp hH
  have sb : Sub J (upd J p (.lst vs)) := .new jp
  have da : Da K (upd J p (.lst vs)) (.ref p) (.list xs) := .lst upd_same (sb.das a)
  refine ⟨_, _, hp, sb, da, ⟨f.w0, t, by simp [f.len], fun k x e1 => ?_, fun k j xs' ys q e1 e2 e3 e4 => ?_, fun q hq => ?_, f.pn⟩⟩
  rotate_left 2
  · obtain ⟨h1, h2, h3, h4, h5⟩ := f.prt q hq
    refine ⟨h1, by rw [upd_ne fun z => h5 i xs e (by rw [z]; exact hp)]; exact h2, h3, h4, fun i xs e => ?_⟩
    rcases set_get e with ⟨_, e'⟩ | ⟨n1, e'⟩
    · cases e'
    · exact h5 i xs e'
  · rcases set_get e1 with ⟨rfl, e1'⟩ | ⟨ne, e1'⟩
    · cases e1'
      exact ⟨_, hp, da⟩
    · obtain ⟨u, hu, h⟩ := f.at_ k x e1'
      refine ⟨u, hu, ?_⟩
      cases x with
      | d x => exact sb.da h
      | own ys =>
        obtain ⟨q, ws, rfl, h1, h2, h3, h4⟩ := h
        exact ⟨q, ws, rfl, h1, sb.das h2, by rw [upd_ne (fr_other f ne e hp e1' hu)]; exact h3, h4⟩
      | drw => exact h
      | raw w => exact h
  · rcases set_get e1 with ⟨_, e⟩ | ⟨n1, e1⟩
    · cases e
    rcases set_get e2 with ⟨_, e⟩ | ⟨n2, e2⟩
    · cases e
    exact f.sep k j xs' ys q e1 e2 e3 e4
/-- what a list of one's own has is changed -/
theorem Fr.write (f : Fr K M J0 H0 Pr s σ J H) {xs zs : List PyData} {ws : List V} (e : s[i]? = some (some (.own xs))) (hp : σ[i]? = some (some (.ref p))) (a : Das K J ws zs) : Fr K M J0 H0 Pr (s.set i (some (.own zs))) σ J (upd H p (.lst ws)) := by
  obtain ⟨p', vs, hp', hH, a', jp, h0⟩ := f.own e
  rw [hp] at hp'
  cases hp'
  have t := put' (zs := ws) f.w0 f.tr hH h0 jp
  refine ⟨f.w0, t, by simp [f.len], fun k x e1 => ?_, fun k j xs' ys q e1 e2 e3 e4 => ?_, fun q hq => ?_, f.pn⟩
  rotate_left 2
  · obtain ⟨h1, h2, h3, h4, h5⟩ := f.prt q hq
    refine ⟨by rw [upd_ne fun z => h5 i xs e (by rw [z]; exact hp)]; exact h1, h2, h3, h4, fun i' xs' e' => ?_⟩
    rcases set_get e' with ⟨z, _⟩ | ⟨n1, e''⟩
    · rw [z]; exact h5 i xs e
    · exact h5 i' xs' e''
  · rcases set_get e1 with ⟨rfl, e1'⟩ | ⟨ne, e1'⟩
    · cases e1'
      exact ⟨_, hp, p, ws, rfl, upd_same, a, jp, h0⟩
    · obtain ⟨u, hu, h⟩ := f.at_ k x e1'
      refine ⟨u, hu, ?_⟩
      cases x with
      | d x => exact h
      | own ys =>
        obtain ⟨q, us, rfl, h1, h2, h3, h4⟩ := h
        exact ⟨q, us, rfl, by rw [upd_ne (fr_other f ne e hp e1' hu)]; exact h1, h2, h3, h4⟩
      | drw => exact h
      | raw w => exact h
  · have o : ∀ {k : Nat} {ys : List PyData}, (s.set i (some (.own zs)))[k]? = some (some (.own ys)) → ∃ ys, s[k]? = some (some (.own ys)) := fun {k ys} q => by
      rcases set_get q with ⟨z, _⟩ | ⟨_, q⟩
      · rw [z]; exact ⟨_, e⟩
      · exact ⟨_, q⟩
    obtain ⟨_, q1⟩ := o e1
    obtain ⟨_, q2⟩ := o e2
    exact f.sep k j _ _ q q1 q2 e3 e4
/-- a new list of one's own -/
theorem Fr.new (f : Fr K M J0 H0 Pr s σ J H) {xs : List PyData} {vs : List V} (hp : H p = none) (a : Das K J vs xs) : Fr K M J0 H0 Pr (s.set k (some (.own xs))) (σ.set k (some (.ref p))) J (upd H p (.lst vs)) := by
  have t := f.wf.cell (o := .lst vs) hp
  have f1 := f.step t
  have h0 : NewP M H0 p := fun o b e => by
    obtain ⟨o', _, e'⟩ := f.tr.aln p o b e
    rw [hp] at e'; cases e'
  refine ⟨f.w0, f1.tr, by simp [f.len], fun j x e1 => ?_, fun j l xs' ys q e1 e2 e3 e4 => ?_, fun q hq => ?_, f.pn⟩
  rotate_left 2
  · obtain ⟨h1, h2, h3, h4, h5⟩ := f1.prt q hq
    refine ⟨h1, h2, h3, h4, fun i' xs' e' => ?_⟩
    have hl := set_lt e'
    rcases set_get e' with ⟨z, _⟩ | ⟨n1, e''⟩
    · subst z
      rw [List.getElem?_set_self (by rw [f.len]; exact hl)]
      intro z
      obtain ⟨g1, _⟩ := f.prt q hq
      rw [← V.ref.inj (Option.some.inj (Option.some.inj z)), hp] at g1
      cases g1
    · rw [List.getElem?_set_ne (Ne.symm n1)]; exact h5 i' xs' e''
  · have hl := set_lt e1
    rcases set_get e1 with ⟨rfl, e1'⟩ | ⟨ne, e1'⟩
    · cases e1'
      exact ⟨_, by rw [List.getElem?_set_self (by rw [f.len]; exact hl)], p, vs, rfl, upd_same, a, f.wf.jh.back hp, h0⟩
    · obtain ⟨u, hu, h⟩ := f1.at_ j x e1'
      exact ⟨u, by rw [List.getElem?_set_ne (Ne.symm ne)]; exact hu, h⟩
  · have old : ∀ {j : Nat} {ys : List PyData}, s[j]? = some (some (.own ys)) → σ[j]? ≠ some (some (.ref p)) := fun {j ys} e z => by
      obtain ⟨q, us, hq, hH, _⟩ := f.own e
      rw [z] at hq; cases hq
      rw [hp] at hH; cases hH
    rcases set_get e1 with ⟨z1, e1'⟩ | ⟨n1, e1'⟩ <;> rcases set_get e2 with ⟨z2, e2'⟩ | ⟨n2, e2'⟩
    · rw [z1, z2]
    · subst z1
      have hl := (List.getElem?_eq_some_iff.mp e3).1
      rw [List.length_set] at hl
      rw [List.getElem?_set_self hl] at e3
      rw [List.getElem?_set_ne (Ne.symm n2)] at e4
      cases e3
      exact absurd e4 (old e2')
    · subst z2
      have hl := (List.getElem?_eq_some_iff.mp e4).1
      rw [List.length_set] at hl
      rw [List.getElem?_set_self hl] at e4
      rw [List.getElem?_set_ne (Ne.symm n1)] at e3
      cases e4
      exact absurd e3 (old e1')
    · rw [List.getElem?_set_ne (Ne.symm n1)] at e3
      rw [List.getElem?_set_ne (Ne.symm n2)] at e4
      exact f.sep j l _ _ q e1' e2' e3 e4
/-- a new list, known to none, that stays as it is -/
theorem Fr.prot (f : Fr K M J0 H0 Pr s σ J H) {vs : List V} (hp : H p = none) : Fr K M J0 H0 ((p, .lst vs) :: Pr) s σ J (upd H p (.lst vs)) := by
  have t := f.wf.cell (o := .lst vs) hp
  have f1 := f.step t
  have h0 : NewP M H0 p := fun o b e => by
    obtain ⟨o', _, e'⟩ := f.tr.aln p o b e
    rw [hp] at e'; cases e'
  refine ⟨f1.w0, f1.tr, f1.len, f1.at_, f1.sep, fun q hq => ?_, ?_⟩
  · rcases List.mem_cons.mp hq with rfl | hq
    · refine ⟨upd_same, f.wf.jh.back hp, h0, ⟨vs, rfl⟩, fun i xs e z => ?_⟩
      obtain ⟨q, us, hq, hH, _⟩ := f.own e
      rw [z] at hq; cases hq
      rw [hp] at hH; cases hH
    · exact f1.prt q hq
  · rw [List.map_cons, List.nodup_cons]
    refine ⟨fun z => ?_, f.pn⟩
    obtain ⟨q, hq, e⟩ := List.mem_map.mp z
    have e' : q.1 = p := e
    obtain ⟨g1, _⟩ := f.prt q hq
    rw [e', hp] at g1; cases g1
theorem Fr.unp {q : Addr × HO} (f : Fr K M J0 H0 (q :: Pr) s σ J H) : Fr K M J0 H0 Pr s σ J H :=
  ⟨f.w0, f.tr, f.len, f.at_, f.sep, fun r hr => f.prt r (List.mem_cons_of_mem _ hr), (List.nodup_cons.mp f.pn).2⟩
theorem Fr.reprot {o : HO} (f : Fr K M J0 H0 ((p, o) :: Pr) s σ J H) {zs : List V} : Fr K M J0 H0 ((p, .lst zs) :: Pr) s σ J (upd H p (.lst zs)) := by
  obtain ⟨h1, h2, h3, ⟨ys, h4⟩, h5⟩ := f.prt _ (List.mem_cons_self ..)
  have h4' : o = .lst ys := h4
  subst h4'
  have t := put' (zs := zs) f.w0 f.tr h1 h3 h2
  refine ⟨f.w0, t, f.len, fun k x e1 => ?_, f.sep, fun q hq => ?_, f.pn⟩
  · obtain ⟨u, hu, h⟩ := f.at_ k x e1
    refine ⟨u, hu, ?_⟩
    cases x with
    | d x => exact h
    | own ws =>
      obtain ⟨q, us, rfl, g1, g2, g3, g4⟩ := h
      exact ⟨q, us, rfl, by rw [upd_ne fun z => h5 k ws e1 (by rw [← z]; exact hu)]; exact g1, g2, g3, g4⟩
    | drw => exact h
    | raw w => exact h
  · rcases List.mem_cons.mp hq with rfl | hq
    · exact ⟨upd_same, h2, h3, ⟨zs, rfl⟩, h5⟩
    · obtain ⟨g1, g2, g3, g4, g5⟩ := f.prt q (List.mem_cons_of_mem _ hq)
      exact ⟨by rw [upd_ne fun z => (List.nodup_cons.mp f.pn).1 (List.mem_map.mpr ⟨q, hq, z⟩)]; exact g1, g2, g3, g4, g5⟩
/-- such a list comes to be known for good -/
theorem Fr.tell {ys : List V} {xs : List PyData} (f : Fr K M J0 H0 ((p, .lst ys) :: Pr) s σ J H) (a : Das K J ys xs) : ∃ J', Sub J J' ∧ Da K J' (.ref p) (.list xs) ∧ Fr K M J0 H0 Pr s σ J' H := by
  obtain ⟨h1, h2, h3, _, h5⟩ := f.prt _ (List.mem_cons_self ..)
  have t := ice' f.tr h3 h2 h1
  have sb : Sub J (upd J p (.lst ys)) := .new h2
  refine ⟨_, sb, .lst upd_same (sb.das a), f.w0, t, f.len, fun k x e1 => ?_, f.sep, fun q hq => ?_, (List.nodup_cons.mp f.pn).2⟩
  · obtain ⟨u, hu, h⟩ := f.at_ k x e1
    refine ⟨u, hu, ?_⟩
    cases x with
    | d x => exact sb.da h
    | own ws =>
      obtain ⟨q, us, rfl, g1, g2, g3, g4⟩ := h
      exact ⟨q, us, rfl, g1, sb.das g2, by rw [upd_ne fun z => h5 k ws e1 (by rw [← z]; exact hu)]; exact g3, g4⟩
    | drw => exact h
    | raw w => exact h
  · obtain ⟨g1, g2, g3, g4, g5⟩ := f.prt q (List.mem_cons_of_mem _ hq)
    exact ⟨g1, by rw [upd_ne fun z => (List.nodup_cons.mp f.pn).1 (List.mem_map.mpr ⟨q, hq, z⟩)]; exact g2, g3, g4, g5⟩
/-- such a list comes to be a slot's own -/
theorem Fr.give {ys : List V} {xs : List PyData} (f : Fr K M J0 H0 ((p, .lst ys) :: Pr) s σ J H) (a : Das K J ys xs) : Fr K M J0 H0 Pr (s.set k (some (.own xs))) (σ.set k (some (.ref p))) J H := by
  obtain ⟨h1, h2, h3, _, h5⟩ := f.prt _ (List.mem_cons_self ..)
  refine ⟨f.w0, f.tr, by simp [f.len], fun j x e1 => ?_, fun j l xs' ys' q e1 e2 e3 e4 => ?_, fun q hq => ?_, (List.nodup_cons.mp f.pn).2⟩
  · have hl := set_lt e1
    rcases set_get e1 with ⟨rfl, e1'⟩ | ⟨ne, e1'⟩
    · cases e1'
      exact ⟨_, by rw [List.getElem?_set_self (by rw [f.len]; exact hl)], p, ys, rfl, h1, a, h2, h3⟩
    · obtain ⟨u, hu, h⟩ := f.at_ j x e1'
      exact ⟨u, by rw [List.getElem?_set_ne (Ne.symm ne)]; exact hu, h⟩
  · rcases set_get e1 with ⟨z1, e1'⟩ | ⟨n1, e1'⟩ <;> rcases set_get e2 with ⟨z2, e2'⟩ | ⟨n2, e2'⟩
    · rw [z1, z2]
    · subst z1
      have hl := (List.getElem?_eq_some_iff.mp e3).1
      rw [List.length_set] at hl
      rw [List.getElem?_set_self hl] at e3
      rw [List.getElem?_set_ne (Ne.symm n2)] at e4
      cases e3
      exact absurd e4 (h5 _ _ e2')
    · subst z2
      have hl := (List.getElem?_eq_some_iff.mp e4).1
      rw [List.length_set] at hl
      rw [List.getElem?_set_self hl] at e4
      rw [List.getElem?_set_ne (Ne.symm n1)] at e3
      cases e4
      exact absurd e3 (h5 _ _ e1')
    · rw [List.getElem?_set_ne (Ne.symm n1)] at e3
      rw [List.getElem?_set_ne (Ne.symm n2)] at e4
      exact f.sep j l _ _ q e1' e2' e3 e4
  · obtain ⟨g1, g2, g3, g4, g5⟩ := f.prt q (List.mem_cons_of_mem _ hq)
    refine ⟨g1, g2, g3, g4, fun i xs' e => ?_⟩
    have hl := set_lt e
    rcases set_get e with ⟨z, _⟩ | ⟨n1, e'⟩
    · subst z
      rw [List.getElem?_set_self (by rw [f.len]; exact hl)]
      intro z
      exact (List.nodup_cons.mp f.pn).1 (List.mem_map.mpr ⟨q, hq, (V.ref.inj (Option.some.inj (Option.some.inj z))).symm⟩)
    · rw [List.getElem?_set_ne (Ne.symm n1)]; exact g5 i xs' e'
end
end DW

/-! Expressions, told in data. -/
namespace DW
open PySem PySem.Spec
open PyProof.Rows L2 DL
abbrev EK := Str → PyData → Sl → Prop
abbrev WE := Sl → (EV → Sl → Prop) → EK → Prop
abbrev WT := Sl → (Bool → Sl → Prop) → EK → Prop
abbrev WA := Sl → (List PyData → Sl → Prop) → EK → Prop
/-- the error classes, and what each keeps -/
structure Ers where
  cl : Str → Addr
  fl : Str → Str
/-- what is wanted where an error is raised -/
def ErO (K : PySem.W.Frag) (er : Ers) (W : WX) (M : Md) (J0 H0 : Hp) (Pr : List (Addr × HO)) (e : EK) : Prop :=
  ∀ c x s σ dx v J H, Fr K M J0 H0 Pr s σ J H → e c x s → H dx = some (.xd [(er.fl c, v)]) → Da K J v x → W (.ref (er.cl c)) (some dx) σ H
section
variable (K : PySem.W.Frag) (er : Ers) (W : WX) (O : Md → Prop)
def SE (te : TE) (we : WE) : Prop := ∀ M, O M → ∀ J0 H0 Pr s σ J H, Fr K M J0 H0 Pr s σ J H → ∀ Q e, we s Q e → ErO K er W M J0 H0 Pr e →
  ∀ Qv : VK, (∀ v r s' J' H', Fr K M J0 H0 Pr s' σ J' H' → Sub J J' → Ve K J' σ v r → Q r s' → Qv v H') → te σ H Qv
def ST (tt : TT) (wt : WT) : Prop := ∀ M, O M → ∀ J0 H0 Pr s σ J H, Fr K M J0 H0 Pr s σ J H → ∀ Q e, wt s Q e → ErO K er W M J0 H0 Pr e →
  ∀ Qb : Bool → Hp → Prop, (∀ b s' J' H', Fr K M J0 H0 Pr s' σ J' H' → Sub J J' → Q b s' → Qb b H') → tt σ H Qb
def SA (ta : TA) (wa : WA) : Prop := ∀ M, O M → ∀ J0 H0 Pr s σ J H, Fr K M J0 H0 Pr s σ J H → ∀ Q e, wa s Q e → ErO K er W M J0 H0 Pr e →
  ∀ Qa : List V → Hp → Prop, (∀ vs ds s' J' H', Fr K M J0 H0 Pr s' σ J' H' → Sub J J' → Das K J' vs ds → Q ds s' → Qa vs H') → ta σ H Qa
end
/-! ### what is given, as a datum -/
def rdq (r : EV) (s : Sl) (k : PyData → Prop) : Prop := match r with
  | .d x => k x
  | .at i => match s[i]? with
    | some (some (.own xs)) => k (.list xs)
    | _ => False
  | .raw _ => False
/-- .. for good -/
def frz (r : EV) (s : Sl) (k : PyData → Sl → Prop) : Prop := match r with
  | .d x => k x s
  | .at i => match s[i]? with
    | some (some (.own xs)) => k (.list xs) (s.set i (some (.d (.list xs))))
    | _ => False
  | .raw _ => False
section
variable {K : PySem.W.Frag} {M : Md} {J0 H0 J H J1 H1 J' H' : Hp} {Pr : List (Addr × HO)} {s : Sl} {σ : L2.St} {v : V} {r : EV}
theorem Dq.dp {x : PyData} (w : Wf M J H) (h : Dq K J H v x) : Dp K H v x := by
  rcases h with h | ⟨p, vs, xs, rfl, rfl, hp, a⟩
  · exact h.dp w.jh
  · exact .lst (.of hp) (Das.dp w.jh a)
theorem Ve.sub {J J' : Hp} (h : Ve K J σ v r) (s : Sub J J') : Ve K J' σ v r := by
  cases r with
  | d x => exact s.da h
  | «at» i => exact h
  | raw u => exact h
theorem rdq_use {k : PyData → Prop} (f : Fr K M J0 H0 Pr s σ J H) (h : Ve K J σ v r) (q : rdq r s k) : ∃ x, k x ∧ Dq K J H v x := by
  cases r with
  | d x => exact ⟨x, q, .inl h⟩
  | «at» i =>
    unfold rdq at q
    dsimp only at q
    split at q
    · rename_i xs e
      obtain ⟨p, vs, hp, hH, a, _⟩ := f.own e
      rw [show σ[i]? = some (some v) from h] at hp
      cases hp
      exact ⟨_, q, .inr ⟨p, vs, xs, rfl, rfl, hH, a⟩⟩
    · exact q.elim
  | raw u => exact q.elim
theorem frz_use {k : PyData → Sl → Prop} (f : Fr K M J0 H0 Pr s σ J H) (h : Ve K J σ v r) (q : frz r s k) : ∃ x s' J', k x s' ∧ Sub J J' ∧ Da K J' v x ∧ Fr K M J0 H0 Pr s' σ J' H := by
  cases r with
  | d x => exact ⟨x, s, J, q, .refl _, h, f⟩
  | «at» i =>
    unfold frz at q
    dsimp only at q
    split at q
    · rename_i xs e
      obtain ⟨J', u, hu, sb, a, f'⟩ := f.ice e
      rw [show σ[i]? = some (some v) from h] at hu
      cases hu
      exact ⟨_, _, J', q, sb, a, f'⟩
    · exact q.elim
  | raw u => exact q.elim
end
/-! ### names, constants -/
def wVar (i : Nat) (s : Sl) (Q : EV → Sl → Prop) (_ : EK) : Prop := match s[i]? with
  | some (some (.d x)) => Q (.d x) s
  | some (some (.raw u)) => Q (.raw u) s
  | some (some _) => Q (.at i) s
  | _ => False
def wC (x : PyData) (s : Sl) (Q : EV → Sl → Prop) (_ : EK) : Prop := Q (.d x) s
def wRaw (u : V) (s : Sl) (Q : EV → Sl → Prop) (_ : EK) : Prop := Q (.raw u) s
section
variable {K : PySem.W.Frag} {er : Ers} {W : WX} {O : Md → Prop} {ta tb tc te : TE} {tt tu : TT} {t : TA} {wa wb wc we : WE} {wt wu : WT} {wl : WA}
theorem se_var {i : Nat} : SE K er W O (tVar i) (wVar i) := fun M mo J0 H0 Pr s σ J H f Q e q he Qv k => by
  unfold wVar at q
  split at q
  · rename_i x hx
    obtain ⟨v, hv, a⟩ := f.at_ i _ hx
    exact ⟨v, hv, k v (.d x) s J H f (.refl _) a q⟩
  · rename_i x hx
    obtain ⟨v, hv, a⟩ := f.at_ i _ hx
    exact ⟨v, hv, k v (.raw x) s J H f (.refl _) a q⟩
  · rename_i x _ _ hx
    obtain ⟨v, hv, _⟩ := f.at_ i x hx
    exact ⟨v, hv, k v (.at i) s J H f (.refl _) hv q⟩
  · exact q.elim
theorem se_c {v : V} {x : PyData} (h : ∀ J, Da K J v x) : SE K er W O (tC v) (wC x) := fun M mo J0 H0 Pr s σ J H f Q e q he Qv k => k v (.d x) s J H f (.refl _) (h J) q
theorem se_raw {v : V} : SE K er W O (tC v) (wRaw v) := fun M mo J0 H0 Pr s σ J H f Q e q he Qv k => k v (.raw v) s J H f (.refl _) rfl q
theorem se_int {i : Int} : SE K er W O (tC (.int i)) (wC (.int i)) := se_c fun _ => .int i
theorem se_bl {b : Bool} : SE K er W O (tC (.bl b)) (wC (.bool b)) := se_c fun _ => .bl b
theorem se_str {x : Str} : SE K er W O (tC (.str x)) (wC (.str x)) := se_c fun _ => .str x
theorem se_non : SE K er W O (tC .non) (wC .none) := se_c fun _ => .non
end
/-! ### operations -/
abbrev G1 := PyData → (PyData → Prop) → Prop
abbrev G2 := PyData → PyData → (PyData → Prop) → Prop
/-- an operation of two values, told by g -/
def OpS (K : PySem.W.Frag) (r : R2) (g : G2) : Prop := ∀ M J H x y dx dy, Wf M J H → Dq K J H x dx → Dq K J H y dy → ∀ P, g dx dy P → ∀ Q : VK, (∀ v d J2 H2, Tr M J H J2 H2 → P d → Da K J2 v d → Q v H2) → r x y H Q
def UnS (K : PySem.W.Frag) (r : V → Hp → VK → Prop) (g : G1) : Prop := ∀ M J H x dx, Wf M J H → Dq K J H x dx → ∀ P, g dx P → ∀ Q : VK, (∀ v d J2 H2, Tr M J H J2 H2 → P d → Da K J2 v d → Q v H2) → r x H Q
def wOp (g : G2) (wa wb : WE) (s : Sl) (Q : EV → Sl → Prop) (e : EK) : Prop := wa s (fun a s1 => wb s1 (fun b s2 => rdq a s2 fun x => rdq b s2 fun y => g x y fun z => Q (.d z) s2) e) e
def wUn (g : G1) (wa : WE) (s : Sl) (Q : EV → Sl → Prop) (e : EK) : Prop := wa s (fun a s1 => rdq a s1 fun x => g x fun z => Q (.d z) s1) e
section
variable {K : PySem.W.Frag} {er : Ers} {W : WX} {O : Md → Prop} {ta tb tc te : TE} {tt tu : TT} {t : TA} {wa wb wc we : WE} {wt wu : WT} {wl : WA}
theorem se_op {r : R2} {g : G2} (o : OpS K r g) (ha : SE K er W O ta wa) (hb : SE K er W O tb wb) : SE K er W O (tOp r ta tb) (wOp g wa wb) := fun M mo J0 H0 Pr s σ J H f Q e q he Qv k =>
  ha M mo J0 H0 Pr s σ J H f _ e q he _ fun x a s1 J1 H1 f1 b1 va q1 => hb M mo J0 H0 Pr s1 σ J1 H1 f1 _ e q1 he _ fun y b s2 J2 H2 f2 b2 vb q2 => by
    obtain ⟨dx, q3, ax⟩ := rdq_use f2 (va.sub b2) q2
    obtain ⟨dy, q4, ay⟩ := rdq_use f2 vb q3
    exact o M J2 H2 x y dx dy f2.wf ax ay _ q4 _ fun v d J3 H3 t3 p3 a3 => k v (.d d) s2 J3 H3 (f2.step t3) ((b1.trans b2).trans t3.jj) a3 p3
theorem se_un {r : V → Hp → VK → Prop} {g : G1} (o : UnS K r g) (ha : SE K er W O ta wa) : SE K er W O (tUn r ta) (wUn g wa) := fun M mo J0 H0 Pr s σ J H f Q e q he Qv k =>
  ha M mo J0 H0 Pr s σ J H f _ e q he _ fun x a s1 J1 H1 f1 b1 va q1 => by
    obtain ⟨dx, q2, ax⟩ := rdq_use f1 va q1
    exact o M J1 H1 x dx f1.wf ax _ q2 _ fun v d J3 H3 t3 p3 a3 => k v (.d d) s1 J3 H3 (f1.step t3) (b1.trans t3.jj) a3 p3
/-- a built-in of one value, which may be a list of one's own -/
theorem se_cb1 {r : List V → Hp → VK → Prop} {g : G1} (o : UnS K (fun x H Q => r [x] H Q) g) (ha : SE K er W O ta wa) : SE K er W O (tCB r (tCons ta tNil)) (wUn g wa) := fun M mo J0 H0 Pr s σ J H f Q e q he Qv k =>
  ha M mo J0 H0 Pr s σ J H f _ e q he _ fun x a s1 J1 H1 f1 b1 va q1 => by
    obtain ⟨dx, q2, ax⟩ := rdq_use f1 va q1
    exact o M J1 H1 x dx f1.wf ax _ q2 _ fun v d J3 H3 t3 p3 a3 => k v (.d d) s1 J3 H3 (f1.step t3) (b1.trans t3.jj) a3 p3
end
/-! several at once: for good -/
def waNil (s : Sl) (Q : List PyData → Sl → Prop) (_ : EK) : Prop := Q [] s
def waCons (wa : WE) (wr : WA) (s : Sl) (Q : List PyData → Sl → Prop) (e : EK) : Prop := wa s (fun a s1 => frz a s1 fun x s2 => wr s2 (fun xs s3 => Q (x :: xs) s3) e) e
def GL := List PyData → (PyData → Prop) → Prop
def CbS (K : PySem.W.Frag) (r : List V → Hp → VK → Prop) (g : List PyData → (PyData → Prop) → Prop) : Prop := ∀ M J H vs ds, Wf M J H → Das K J vs ds → ∀ P, g ds P → ∀ Q : VK, (∀ v d J2 H2, Tr M J H J2 H2 → P d → Da K J2 v d → Q v H2) → r vs H Q
def wCB (g : List PyData → (PyData → Prop) → Prop) (wl : WA) (s : Sl) (Q : EV → Sl → Prop) (e : EK) : Prop := wl s (fun xs s1 => g xs fun z => Q (.d z) s1) e
def wTup (wl : WA) (s : Sl) (Q : EV → Sl → Prop) (e : EK) : Prop := wl s (fun xs s1 => xs.length ≤ sizeLine ∧ Q (.d (.tuple xs)) s1) e
def wLst (wl : WA) (s : Sl) (Q : EV → Sl → Prop) (e : EK) : Prop := wl s (fun xs s1 => xs.length ≤ sizeLine ∧ Q (.d (.list xs)) s1) e
section
variable {K : PySem.W.Frag} {er : Ers} {W : WX} {O : Md → Prop} {ta tb tc te : TE} {tt tu : TT} {t : TA} {wa wb wc we : WE} {wt wu : WT} {wl : WA}
theorem sa_nil : SA K er W O tNil waNil := fun M mo J0 H0 Pr s σ J H f Q e q he Qa k => k [] [] s J H f (.refl _) .nil q
theorem sa_cons (ha : SE K er W O ta wa) (hr : SA K er W O t wl) : SA K er W O (tCons ta t) (waCons wa wl) := fun M mo J0 H0 Pr s σ J H f Q e q he Qa k =>
  ha M mo J0 H0 Pr s σ J H f _ e q he _ fun x a s1 J1 H1 f1 b1 va q1 => by
    obtain ⟨dx, s2, J2, q2, b2, ax, f2⟩ := frz_use f1 va q1
    exact hr M mo J0 H0 Pr s2 σ J2 H1 f2 _ e q2 he _ fun vs ds s3 J3 H3 f3 b3 a3 q3 => k _ _ s3 J3 H3 f3 ((b1.trans b2).trans b3) (.cons (b3.da ax) a3) q3
theorem se_cb {r : List V → Hp → VK → Prop} {g : List PyData → (PyData → Prop) → Prop} (o : CbS K r g) (ha : SA K er W O t wl) : SE K er W O (tCB r t) (wCB g wl) := fun M mo J0 H0 Pr s σ J H f Q e q he Qv k =>
  ha M mo J0 H0 Pr s σ J H f _ e q he _ fun vs ds s1 J1 H1 f1 b1 a1 q1 => o M J1 H1 vs ds f1.wf a1 _ q1 _ fun v d J3 H3 t3 p3 a3 => k v (.d d) s1 J3 H3 (f1.step t3) (b1.trans t3.jj) a3 p3
theorem se_tup (ha : SA K er W O t wl) : SE K er W O (tTup t) (wTup wl) := fun M mo J0 H0 Pr s σ J H f Q e q he Qv k =>
  ha M mo J0 H0 Pr s σ J H f _ e q he _ fun vs ds s1 J1 H1 f1 b1 a1 ⟨hl, q1⟩ => ⟨by rw [das_len a1]; exact hl, fun l hn => by
    have t3 := f1.wf.new (o := .tup vs) hn
    exact k _ (.d (.tuple ds)) s1 _ _ (f1.step t3) (b1.trans t3.jj) (.tup (.of upd_same) (t3.jj.das a1)) q1⟩
theorem se_lst (ha : SA K er W O t wl) : SE K er W O (tLst t) (wLst wl) := fun M mo J0 H0 Pr s σ J H f Q e q he Qv k =>
  ha M mo J0 H0 Pr s σ J H f _ e q he _ fun vs ds s1 J1 H1 f1 b1 a1 ⟨hl, q1⟩ => ⟨by rw [das_len a1]; exact hl, fun l hn => by
    have t3 := f1.wf.new (o := .lst vs) hn
    exact k _ (.d (.list ds)) s1 _ _ (f1.step t3) (b1.trans t3.jj) (.lst upd_same (t3.jj.das a1)) q1⟩
end
/-! ### tests -/
def wTest (wa : WE) (s : Sl) (Q : Bool → Sl → Prop) (e : EK) : Prop := wa s (fun a s1 => match a with
  | .d (.bool b) => Q b s1
  | _ => False) e
def wYes (s : Sl) (Q : Bool → Sl → Prop) (_ : EK) : Prop := Q true s
def wAnd (wt wu : WT) (s : Sl) (Q : Bool → Sl → Prop) (e : EK) : Prop := wt s (fun b s1 => if b = true then wu s1 Q e else Q false s1) e
def wOr (wt wu : WT) (s : Sl) (Q : Bool → Sl → Prop) (e : EK) : Prop := wt s (fun b s1 => if b = true then Q true s1 else wu s1 Q e) e
def wNot (wt : WT) (s : Sl) (Q : Bool → Sl → Prop) (e : EK) : Prop := wt s (fun b s1 => Q (!b) s1) e
/-- truth, of what has one that is known -/
def gTr (x : PyData) (k : Bool → Prop) : Prop := match x with
  | .str z => z.length ≤ sizeLine ∧ k (truth (.str z))
  | .dict _ => False
  | x => k (truth x)
def wTr (wa : WE) (s : Sl) (Q : Bool → Sl → Prop) (e : EK) : Prop := wa s (fun a s1 => rdq a s1 fun x => gTr x fun b => Q b s1) e
def wAndV (wa wb : WE) (s : Sl) (Q : EV → Sl → Prop) (e : EK) : Prop := wTest wa s (fun b s1 => if b = true then wb s1 Q e else Q (.d (.bool false)) s1) e
def wOrV (wa wb : WE) (s : Sl) (Q : EV → Sl → Prop) (e : EK) : Prop := wTest wa s (fun b s1 => if b = true then Q (.d (.bool true)) s1 else wb s1 Q e) e
def wNotV (wa : WE) (s : Sl) (Q : EV → Sl → Prop) (e : EK) : Prop := wTest wa s (fun b s1 => Q (.d (.bool !b)) s1) e
def wIf (wt : WT) (wa wb : WE) (s : Sl) (Q : EV → Sl → Prop) (e : EK) : Prop := wt s (fun b s1 => if b = true then wa s1 Q e else wb s1 Q e) e
section
variable {K : PySem.W.Frag} {er : Ers} {W : WX} {O : Md → Prop} {ta tb tc te : TE} {tt tu : TT} {t : TA} {wa wb wc we : WE} {wt wu : WT} {wl : WA} {J : Hp} {σ : L2.St} {v : V} {a : EV} {s : Sl} {Q : Bool → Sl → Prop}
theorem test_use (va : Ve K J σ v a) (q : match (generalizing := false) a with | .d (.bool b) => Q b s | _ => False) : ∃ b, v = .bl b ∧ Q b s := by
  split at q
  · exact ⟨_, da_bl va, q⟩
  · exact q.elim
theorem st_test (ha : SE K er W O ta wa) : ST K er W O (tTest ta) (wTest wa) := fun M mo J0 H0 Pr s σ J H f Q e q he Qb k =>
  ha M mo J0 H0 Pr s σ J H f _ e q he _ fun x a s1 J1 H1 f1 b1 va q1 => by
    obtain ⟨b, rfl, q2⟩ := test_use va q1
    exact ⟨b, rfl, k b s1 J1 H1 f1 b1 q2⟩
theorem st_B (ha : SE K er W O ta wa) : ST K er W O (tB ta) (wTest wa) := fun M mo J0 H0 Pr s σ J H f Q e q he Qb k =>
  ha M mo J0 H0 Pr s σ J H f _ e q he _ fun x a s1 J1 H1 f1 b1 va q1 => by
    obtain ⟨b, rfl, q2⟩ := test_use va q1
    exact ⟨b, rfl, k b s1 J1 H1 f1 b1 q2⟩
theorem st_yes : ST K er W O tYes wYes := fun M mo J0 H0 Pr s σ J H f Q e q he Qb k => k true s J H f (.refl _) q
theorem st_and (ha : ST K er W O tt wt) (hb : ST K er W O tu wu) : ST K er W O (tAnd tt tu) (wAnd wt wu) := fun M mo J0 H0 Pr s σ J H f Q e q he Qb k =>
  ha M mo J0 H0 Pr s σ J H f _ e q he _ fun b s1 J1 H1 f1 b1 q1 => by
    cases b with
    | true => exact hb M mo J0 H0 Pr s1 σ J1 H1 f1 _ e q1 he _ fun c s2 J2 H2 f2 b2 q2 => k c s2 J2 H2 f2 (b1.trans b2) q2
    | false => exact k false s1 J1 H1 f1 b1 q1
theorem st_or (ha : ST K er W O tt wt) (hb : ST K er W O tu wu) : ST K er W O (tOr tt tu) (wOr wt wu) := fun M mo J0 H0 Pr s σ J H f Q e q he Qb k =>
  ha M mo J0 H0 Pr s σ J H f _ e q he _ fun b s1 J1 H1 f1 b1 q1 => by
    cases b with
    | false => exact hb M mo J0 H0 Pr s1 σ J1 H1 f1 _ e q1 he _ fun c s2 J2 H2 f2 b2 q2 => k c s2 J2 H2 f2 (b1.trans b2) q2
    | true => exact k true s1 J1 H1 f1 b1 q1
theorem st_not (ha : ST K er W O tt wt) : ST K er W O (tNot tt) (wNot wt) := fun M mo J0 H0 Pr s σ J H f Q e q he Qb k =>
  ha M mo J0 H0 Pr s σ J H f _ e q he _ fun b s1 J1 H1 f1 b1 q1 => k (!b) s1 J1 H1 f1 b1 q1
theorem st_tr (ha : SE K er W O ta wa) : ST K er W O (tTruth K ta) (wTr wa) := fun M mo J0 H0 Pr s σ J H f Q e q he Qb k =>
  ha M mo J0 H0 Pr s σ J H f _ e q he _ fun x a s1 J1 H1 f1 b1 va q1 => by
    obtain ⟨dx, q2, ax⟩ := rdq_use f1 va q1
    have fin : gTr dx (fun b => Q b s1) → (∀ z, dx = .str z → z.length ≤ sizeLine) ∧ Q (truth dx) s1 := fun h => by
      cases dx with
      | str z => exact ⟨fun z' e => by cases e; exact h.1, h.2⟩
      | dict _ => exact h.elim
      | none => exact ⟨nofun, h⟩
      | bool b => exact ⟨nofun, h⟩
      | int i => exact ⟨nofun, h⟩
      | list xs => exact ⟨nofun, h⟩
      | tuple xs => exact ⟨nofun, h⟩
    obtain ⟨hz, q3⟩ := fin q2
    refine ⟨truth dx, ?_, k _ s1 J1 H1 f1 b1 q3⟩
    rcases ax with ax | ⟨p, vs, xs, rfl, rfl, hp, ad⟩
    · cases ax with
      | non => rfl
      | bl b => rfl
      | int i => rfl
      | str x => exact ⟨hz x rfl, rfl⟩
      | lst a b => exact .inl ⟨_, .of (f1.wf.jh _ _ a), by rw [das_empty b]; rfl⟩
      | tup a b => exact .inr (.inl ⟨_, f1.wf.jh.t a, by rw [das_empty b]; rfl⟩)
    · exact .inl ⟨_, .of hp, by rw [das_empty ad]; rfl⟩
theorem se_andV (ha : SE K er W O ta wa) (hb : SE K er W O tb wb) : SE K er W O (tAndV ta tb) (wAndV wa wb) := fun M mo J0 H0 Pr s σ J H f Q e q he Qv k =>
  ha M mo J0 H0 Pr s σ J H f _ e q he _ fun x a s1 J1 H1 f1 b1 va q1 => by
    obtain ⟨b, rfl, q2⟩ := test_use (s := s1) (Q := fun b s1 => if b = true then wb s1 Q e else Q (.d (.bool false)) s1) va q1
    refine ⟨b, rfl, ?_⟩
    cases b with
    | true => exact hb M mo J0 H0 Pr s1 σ J1 H1 f1 _ e q2 he _ fun v r s2 J2 H2 f2 b2 v2 q3 => k v r s2 J2 H2 f2 (b1.trans b2) v2 q3
    | false => exact k _ (.d (.bool false)) s1 J1 H1 f1 b1 (.bl false) q2
theorem se_orV (ha : SE K er W O ta wa) (hb : SE K er W O tb wb) : SE K er W O (tOrV ta tb) (wOrV wa wb) := fun M mo J0 H0 Pr s σ J H f Q e q he Qv k =>
  ha M mo J0 H0 Pr s σ J H f _ e q he _ fun x a s1 J1 H1 f1 b1 va q1 => by
    obtain ⟨b, rfl, q2⟩ := test_use (s := s1) (Q := fun b s1 => if b = true then Q (.d (.bool true)) s1 else wb s1 Q e) va q1
    refine ⟨b, rfl, ?_⟩
    cases b with
    | false => exact hb M mo J0 H0 Pr s1 σ J1 H1 f1 _ e q2 he _ fun v r s2 J2 H2 f2 b2 v2 q3 => k v r s2 J2 H2 f2 (b1.trans b2) v2 q3
    | true => exact k _ (.d (.bool true)) s1 J1 H1 f1 b1 (.bl true) q2
theorem se_notV (ha : SE K er W O ta wa) : SE K er W O (tNotV ta) (wNotV wa) := fun M mo J0 H0 Pr s σ J H f Q e q he Qv k =>
  ha M mo J0 H0 Pr s σ J H f _ e q he _ fun x a s1 J1 H1 f1 b1 va q1 => by
    obtain ⟨b, rfl, q2⟩ := test_use (s := s1) (Q := fun b s1 => Q (.d (.bool !b)) s1) va q1
    exact ⟨b, rfl, k _ (.d (.bool !b)) s1 J1 H1 f1 b1 (.bl _) q2⟩
theorem se_if (hc : ST K er W O tt wt) (ha : SE K er W O ta wa) (hb : SE K er W O tb wb) : SE K er W O (tIf tt ta tb) (wIf wt wa wb) := fun M mo J0 H0 Pr s σ J H f Q e q he Qv k =>
  hc M mo J0 H0 Pr s σ J H f _ e q he _ fun b s1 J1 H1 f1 b1 q1 => by
    cases b with
    | true => exact ha M mo J0 H0 Pr s1 σ J1 H1 f1 _ e q1 he _ fun v r s2 J2 H2 f2 b2 v2 q3 => k v r s2 J2 H2 f2 (b1.trans b2) v2 q3
    | false => exact hb M mo J0 H0 Pr s1 σ J1 H1 f1 _ e q1 he _ fun v r s2 J2 H2 f2 b2 v2 q3 => k v r s2 J2 H2 f2 (b1.trans b2) v2 q3
end
end DW

/-! What operations make of data. -/
namespace DW
open PySem PySem.Spec
open PyProof.Rows L2 DL
def sLt (x y : Str) : Bool := decide (x.cps.toList < y.cps.toList)
def gAdd : G2
  | .int i, .int j, k => k (.int (i + j))
  | .tuple xs, .tuple ys, k => xs.length + ys.length ≤ sizeLine ∧ k (.tuple (xs ++ ys))
  | .list xs, .list ys, k => xs.length + ys.length ≤ sizeLine ∧ k (.list (xs ++ ys))
  | .str x, .str y, k => x.length + y.length ≤ sizeLine ∧ k (.str (x ++ y))
  | _, _, _ => False
def gSub : G2
  | .int i, .int j, k => k (.int (i - j))
  | _, _, _ => False
def gMul : G2
  | .int i, .int j, k => CMulW i j ∧ k (.int (i * j))
  | _, _, _ => False
def gMod : G2
  | .int i, .int j, k => 0 < j ∧ k (.int (i % j))
  | _, _, _ => False
def gDiv : G2
  | .int i, .int j, k => CDivW i j ∧ k (.int (i / j))
  | _, _, _ => False
def gPow : G2
  | .int i, .int j, k => CPow i j ∧ k (.int (i ^ j.toNat))
  | _, _, _ => False
def gLt : G2
  | .int i, .int j, k => k (.bool (decide (i < j)))
  | .str i, .str j, k => k (.bool (sLt i j))
  | _, _, _ => False
def gLe : G2
  | .int i, .int j, k => k (.bool (decide (i ≤ j)))
  | .str i, .str j, k => k (.bool (!sLt j i))
  | _, _, _ => False
def gGt : G2
  | .int i, .int j, k => k (.bool (decide (j < i)))
  | .str i, .str j, k => k (.bool (sLt j i))
  | _, _, _ => False
def gGe : G2
  | .int i, .int j, k => k (.bool (decide (j ≤ i)))
  | .str i, .str j, k => k (.bool (!sLt i j))
  | _, _, _ => False
def gEq : G2 := fun x y k => SeqAt.shaped x = true ∧ SeqAt.shaped y = true ∧ k (.bool (PyData.eqv x y))
def gNe : G2 := fun x y k => SeqAt.shaped x = true ∧ SeqAt.shaped y = true ∧ k (.bool (!PyData.eqv x y))
/-- x in y: b says whether it is asked so, or the other way -/
def gInB (b : Bool) : G2 := fun x y k => match y with
  | .list ys => SeqAt.shaped x = true ∧ SeqAt.shaped (.list ys) = true ∧ k (.bool (xor (!b) (ys.any fun z => PyData.eqv z x)))
  | .tuple ys => SeqAt.shaped x = true ∧ SeqAt.shaped (.tuple ys) = true ∧ k (.bool (xor (!b) (ys.any fun z => PyData.eqv z x)))
  | .str z => ∃ c, x = .str ⟨#[c]⟩ ∧ k (.bool (xor (!b) (decide (c ∈ z.cps.toList))))
  | _ => False
abbrev gIn : G2 := gInB true
abbrev gNotIn : G2 := gInB false
def gIs : G2
  | x, .none, k => k (.bool (isNo x))
  | _, _, _ => False
def gIsNot : G2
  | x, .none, k => k (.bool (!isNo x))
  | _, _, _ => False
def gIx : G2
  | .list xs, .int i, k => ∃ d, atI xs i = some d ∧ k d
  | .tuple xs, .int i, k => ∃ d, atI xs i = some d ∧ k d
  | .str z, .int i, k => z.length ≤ sizeLine ∧ ∃ c, atI z.cps.toList i = some c ∧ k (.str ⟨#[c]⟩)
  | _, _, _ => False
def gNeg : G1
  | .int i, k => k (.int (-i))
  | _, _ => False
def gLen : G1
  | .list xs, k => k (.int xs.length)
  | .tuple xs, k => k (.int xs.length)
  | .str z, k => z.length ≤ sizeLine ∧ k (.int z.length)
  | _, _ => False
def gToT : G1
  | .list xs, k => k (.tuple xs)
  | .tuple xs, k => k (.tuple xs)
  | _, _ => False
def gToL : G1
  | .list xs, k => k (.list xs)
  | .tuple xs, k => k (.list xs)
  | _, _ => False
def gInt : G1
  | .int i, k => k (.int i)
  | .bool b, k => k (.int (if b then 1 else 0))
  | _, _ => False
def gAbs : G1
  | .int i, k => k (.int (if i < 0 then -i else i))
  | _, _ => False
def gRepr : G1 := fun d k => d.showable = true ∧ d.shown.length ≤ sizeLine ∧ d.depth ≤ 60 ∧ k (.str d.shown)
section
variable {K : PySem.W.Frag} {M : Md} {J H : Hp} {v : V} {x : PyData}
theorem dq_int {i : Int} (h : Dq K J H v (.int i)) : v = .int i := by
  rcases h with h | ⟨_, _, _, _, e, _⟩
  · exact da_int h
  · cases e
theorem dq_bl {b : Bool} (h : Dq K J H v (.bool b)) : v = .bl b := by
  rcases h with h | ⟨_, _, _, _, e, _⟩
  · exact da_bl h
  · cases e
theorem dq_str {z : Str} (h : Dq K J H v (.str z)) : v = .str z := by
  rcases h with h | ⟨_, _, _, _, e, _⟩
  · exact da_str h
  · cases e
theorem dq_non (h : Dq K J H v .none) : v = .non := by
  rcases h with h | ⟨_, _, _, _, e, _⟩
  · exact da_non h
  · cases e
theorem dq_tup {xs : List PyData} (w : Sub J H) (h : Dq K J H v (.tuple xs)) : ∃ a vs, v = .ref a ∧ SqT K H a vs ∧ Das K J vs xs ∧ Da K J v (.tuple xs) := by
  rcases h with h | ⟨_, _, _, _, e, _⟩
  · obtain ⟨a, vs, e, h1, h2⟩ := da_tup h
    exact ⟨a, vs, e, w.t h1, h2, h⟩
  · cases e
theorem dq_lst {xs : List PyData} (w : Sub J H) (h : Dq K J H v (.list xs)) : ∃ a vs, v = .ref a ∧ H a = some (.lst vs) ∧ Das K J vs xs := by
  rcases h with h | ⟨p, vs, ys, e, e2, hp, a⟩
  · obtain ⟨a, vs, e, h1, h2⟩ := da_lst h
    exact ⟨a, vs, e, w _ _ h1, h2⟩
  · cases e2
    exact ⟨p, vs, e, hp, a⟩
theorem dq_isNo (h : Dq K J H v x) : decide (v = .non) = isNo x := by
  rcases h with h | ⟨_, _, _, e, e2, _⟩
  · exact da_isNo h
  · rw [e, e2]; rfl
theorem Wf.trr (w : Wf M J H) : Tr M J H J H := w.tr
end
section
variable {K : PySem.W.Frag}
theorem or_ops {r r' : R2} {g g' : G2} (h : OpS K r g) (h' : OpS K r' g') : OpS K (fun x y H Q => r x y H Q ∨ r' x y H Q) (fun x y k => g x y k ∨ g' x y k) := fun M J H x y dx dy w ax ay P hg Q q => by
  rcases hg with hg | hg
  · exact .inl (h M J H x y dx dy w ax ay P hg Q q)
  · exact .inr (h' M J H x y dx dy w ax ay P hg Q q)
theorem os_add : OpS K (rPlus K) gAdd := fun M J H x y dx dy w ax ay P hg Q q => by
  unfold gAdd at hg
  split at hg
  · rw [dq_int ax, dq_int ay]
    exact .inl ⟨_, _, rfl, rfl, q _ _ J H w.tr hg (.int _)⟩
  · rename_i xs ys
    obtain ⟨a, vs, rfl, hl, hd, fx⟩ := dq_tup w.jh ax
    obtain ⟨b, ws, rfl, hl2, hd2, fy⟩ := dq_tup w.jh ay
    refine .inr (.inl ⟨a, b, vs, ws, rfl, rfl, hl, hl2, by rw [das_len hd, das_len hd2]; exact hg.1, fun e => ?_, fun _ e => ?_, fun _ _ l hn => ?_⟩)
    · subst e
      cases hd
      exact q _ _ J H w.tr hg.2 fy
    · subst e
      cases hd2
      have h2 := hg.2
      rw [List.append_nil] at h2
      exact q _ _ J H w.tr h2 fx
    · have t := w.new (o := .tup (vs ++ ws)) hn
      exact q _ _ _ _ t hg.2 (.tup (.of upd_same) (t.jj.das (das_app hd hd2)))
  · rename_i xs ys
    obtain ⟨a, vs, rfl, hl, hd⟩ := dq_lst w.jh ax
    obtain ⟨b, ws, rfl, hl2, hd2⟩ := dq_lst w.jh ay
    refine .inr (.inr (.inl ⟨a, b, vs, ws, rfl, rfl, hl, hl2, by rw [das_len hd, das_len hd2]; exact hg.1, fun l hn => ?_⟩))
    have t := w.new (o := .lst (vs ++ ws)) hn
    exact q _ _ _ _ t hg.2 (.lst upd_same (t.jj.das (das_app hd hd2)))
  · exact .inr (.inr (.inr ⟨_, _, dq_str ax, dq_str ay, hg.1, q _ _ J H w.tr hg.2 (.str _)⟩))
  · exact hg.elim
theorem os_I0 {f : Int → Int → Int} {g : G2} (hg : ∀ dx dy P, g dx dy P → ∃ i j, dx = .int i ∧ dy = .int j ∧ P (.int (f i j))) : OpS K (rI0 fun i j => .int (f i j)) g := fun M J H x y dx dy w ax ay P h Q q => by
  obtain ⟨i, j, rfl, rfl, h1⟩ := hg _ _ _ h
  exact ⟨i, j, dq_int ax, dq_int ay, q _ _ J H w.tr h1 (.int _)⟩
theorem os_I {C : Int → Int → Prop} {f : Int → Int → Int} {g : G2} (hg : ∀ dx dy P, g dx dy P → ∃ i j, dx = .int i ∧ dy = .int j ∧ C i j ∧ P (.int (f i j))) : OpS K (rI C fun i j => .int (f i j)) g := fun M J H x y dx dy w ax ay P h Q q => by
  obtain ⟨i, j, rfl, rfl, hc, h1⟩ := hg _ _ _ h
  exact ⟨i, j, dq_int ax, dq_int ay, hc, q _ _ J H w.tr h1 (.int _)⟩
theorem os_sub : OpS K (rI0 fun i j => .int (i - j)) gSub := os_I0 fun dx dy P h => by
  unfold gSub at h; split at h
  · exact ⟨_, _, rfl, rfl, h⟩
  · exact h.elim
theorem os_mul : OpS K (rI CMulW fun i j => .int (i * j)) gMul := os_I fun dx dy P h => by
  unfold gMul at h; split at h
  · exact ⟨_, _, rfl, rfl, h⟩
  · exact h.elim
theorem os_mod : OpS K (rI (fun _ j => 0 < j) fun i j => .int (i % j)) gMod := os_I fun dx dy P h => by
  unfold gMod at h; split at h
  · exact ⟨_, _, rfl, rfl, h⟩
  · exact h.elim
theorem os_div : OpS K (rI CDivW fun i j => .int (i / j)) gDiv := os_I fun dx dy P h => by
  unfold gDiv at h; split at h
  · exact ⟨_, _, rfl, rfl, h⟩
  · exact h.elim
theorem os_pow : OpS K (rI CPow fun i j => .int (i ^ j.toNat)) gPow := os_I fun dx dy P h => by
  unfold gPow at h; split at h
  · exact ⟨_, _, rfl, rfl, h⟩
  · exact h.elim
def rB0 (f : Int → Int → Bool) (g : Str → Str → Bool) : R2 := fun x y H Q => (rI0 fun i j => .bl (f i j)) x y H Q ∨ (∃ i j, x = .str i ∧ y = .str j ∧ Q (.bl (g i j)) H)
theorem os_B {f : Int → Int → Bool} {g : Str → Str → Bool} {gg : G2} (hg : ∀ dx dy P, gg dx dy P → (∃ i j, dx = .int i ∧ dy = .int j ∧ P (.bool (f i j))) ∨ ∃ i j, dx = .str i ∧ dy = .str j ∧ P (.bool (g i j))) : OpS K (rB0 f g) gg := fun M J H x y dx dy w ax ay P h Q q => by
  rcases hg _ _ _ h with ⟨i, j, rfl, rfl, h1⟩ | ⟨i, j, rfl, rfl, h1⟩
  · exact .inl ⟨i, j, dq_int ax, dq_int ay, q _ _ J H w.tr h1 (.bl _)⟩
  · exact .inr ⟨i, j, dq_str ax, dq_str ay, q _ _ J H w.tr h1 (.bl _)⟩
theorem os_lt : OpS K (rB0 (fun i j => decide (i < j)) fun i j => decide (i.cps.toList < j.cps.toList)) gLt := os_B fun dx dy P h => by
  unfold gLt at h; split at h
  · exact .inl ⟨_, _, rfl, rfl, h⟩
  · exact .inr ⟨_, _, rfl, rfl, h⟩
  · exact h.elim
theorem os_le : OpS K (rB0 (fun i j => decide (i ≤ j)) fun i j => !decide (j.cps.toList < i.cps.toList)) gLe := os_B fun dx dy P h => by
  unfold gLe at h; split at h
  · exact .inl ⟨_, _, rfl, rfl, h⟩
  · exact .inr ⟨_, _, rfl, rfl, h⟩
  · exact h.elim
theorem os_gt : OpS K (rB0 (fun i j => decide (j < i)) fun i j => decide (j.cps.toList < i.cps.toList)) gGt := os_B fun dx dy P h => by
  unfold gGt at h; split at h
  · exact .inl ⟨_, _, rfl, rfl, h⟩
  · exact .inr ⟨_, _, rfl, rfl, h⟩
  · exact h.elim
theorem os_ge : OpS K (rB0 (fun i j => decide (j ≤ i)) fun i j => !decide (i.cps.toList < j.cps.toList)) gGe := os_B fun dx dy P h => by
  unfold gGe at h; split at h
  · exact .inl ⟨_, _, rfl, rfl, h⟩
  · exact .inr ⟨_, _, rfl, rfl, h⟩
  · exact h.elim
theorem os_eq : OpS K (rEqD K) gEq := fun M J H x y dx dy w ax ay P ⟨h1, h2, h3⟩ Q q => ⟨dx, dy, ax.dp w, ay.dp w, h1, h2, q _ _ J H w.tr h3 (.bl _)⟩
theorem os_ne : OpS K (rNeD K) gNe := fun M J H x y dx dy w ax ay P ⟨h1, h2, h3⟩ Q q => ⟨dx, dy, ax.dp w, ay.dp w, h1, h2, q _ _ J H w.tr h3 (.bl _)⟩
def rInU (K : PySem.W.Frag) : R2 := fun x y H Q => rInD K x y H Q ∨ rInDT K false x y H Q ∨ ∃ (c : Nat) (z : Str), x = .str ⟨#[c]⟩ ∧ y = .str z ∧ Q (.bl (decide (c ∈ z.cps.toList))) H
def rNotInU (K : PySem.W.Frag) : R2 := fun x y H Q => rNotInD K x y H Q ∨ rInDT K true x y H Q ∨ ∃ (c : Nat) (z : Str), x = .str ⟨#[c]⟩ ∧ y = .str z ∧ Q (.bl (!decide (c ∈ z.cps.toList))) H
theorem os_in : OpS K (rInU K) gIn := fun M J H x y dx dy w ax ay P hg Q q => by
  unfold gIn gInB at hg
  split at hg
  · exact .inl ⟨dx, _, ax.dp w, ay.dp w, hg.1, hg.2.1, q _ _ J H w.tr hg.2.2 (by rw [Bool.not_true, Bool.false_xor]; exact .bl _)⟩
  · exact .inr (.inl ⟨dx, _, ⟨ax.dp w, hg.1⟩, ⟨ay.dp w, hg.2.1⟩, q _ _ J H w.tr hg.2.2 (by rw [Bool.not_true, Bool.false_xor]; exact .bl _)⟩)
  · obtain ⟨c, rfl, h⟩ := hg
    exact .inr (.inr ⟨c, _, dq_str ax, dq_str ay, q _ _ J H w.tr h (by rw [Bool.not_true, Bool.false_xor]; exact .bl _)⟩)
  · exact hg.elim
theorem os_notIn : OpS K (rNotInU K) gNotIn := fun M J H x y dx dy w ax ay P hg Q q => by
  unfold gNotIn gInB at hg
  split at hg
  · exact .inl ⟨dx, _, ax.dp w, ay.dp w, hg.1, hg.2.1, q _ _ J H w.tr hg.2.2 (by rw [Bool.not_false, Bool.true_xor]; exact .bl _)⟩
  · exact .inr (.inl ⟨dx, _, ⟨ax.dp w, hg.1⟩, ⟨ay.dp w, hg.2.1⟩, q _ _ J H w.tr hg.2.2 (by rw [Bool.not_false, Bool.true_xor]; exact .bl _)⟩)
  · obtain ⟨c, rfl, h⟩ := hg
    exact .inr (.inr ⟨c, _, dq_str ax, dq_str ay, q _ _ J H w.tr h (by rw [Bool.not_false, Bool.true_xor]; exact .bl _)⟩)
  · exact hg.elim
theorem os_is : OpS K rIsNo gIs := fun M J H x y dx dy w ax ay P hg Q q => by
  unfold gIs at hg
  split at hg
  · exact ⟨dq_non ay, q _ _ J H w.tr hg (by rw [← dq_isNo ax]; exact .bl _)⟩
  · exact hg.elim
theorem os_isNot : OpS K rNotNo gIsNot := fun M J H x y dx dy w ax ay P hg Q q => by
  unfold gIsNot at hg
  split at hg
  · exact ⟨dq_non ay, q _ _ J H w.tr hg (by rw [← dq_isNo ax]; exact .bl _)⟩
  · exact hg.elim
theorem os_ix : OpS K (rIx K) gIx := fun M J H x y dx dy w ax ay P hg Q q => by
  unfold gIx at hg
  split at hg
  · obtain ⟨d, e, h⟩ := hg
    obtain ⟨a, vs, rfl, hl, hd⟩ := dq_lst w.jh ax
    obtain ⟨v, hv, av⟩ := das_atI hd e
    exact .inl ⟨a, vs, _, v, rfl, dq_int ay, .of hl, hv, q v d J H w.tr h av⟩
  · obtain ⟨d, e, h⟩ := hg
    obtain ⟨a, vs, rfl, hl, hd, _⟩ := dq_tup w.jh ax
    obtain ⟨v, hv, av⟩ := das_atI hd e
    exact .inr (.inl ⟨a, vs, _, v, rfl, dq_int ay, hl, hv, q v d J H w.tr h av⟩)
  · obtain ⟨hz, c, e, h⟩ := hg
    exact .inr (.inr ⟨_, _, c, dq_str ax, dq_int ay, hz, e, q _ _ J H w.tr h (.str _)⟩)
  · exact hg.elim
theorem us_neg : UnS K (rU fun i => .int (-i)) gNeg := fun M J H x dx w ax P hg Q q => by
  unfold gNeg at hg; split at hg
  · exact ⟨_, dq_int ax, q _ _ J H w.tr hg (.int _)⟩
  · exact hg.elim
theorem us_len : UnS K (fun x H Q => rLen K [x] H Q) gLen := fun M J H x dx w ax P hg Q q => by
  unfold gLen at hg; split at hg
  · obtain ⟨a, vs, rfl, hl, hd⟩ := dq_lst w.jh ax
    exact ⟨_, _, rfl, .inl ⟨vs, .of hl, (das_len hd).symm⟩, q _ _ J H w.tr hg (.int _)⟩
  · obtain ⟨a, vs, rfl, hl, hd, _⟩ := dq_tup w.jh ax
    exact ⟨_, _, rfl, .inr ⟨vs, hl, (das_len hd).symm⟩, q _ _ J H w.tr hg (.int _)⟩
  · exact ⟨_, _, rfl, by rw [dq_str ax]; exact ⟨hg.1, rfl⟩, q _ _ J H w.tr hg.2 (.int _)⟩
  · exact hg.elim
theorem us_tup : UnS K (fun x H Q => rTupOf K [x] H Q) gToT := fun M J H x dx w ax P hg Q q => by
  unfold gToT at hg; split at hg
  · obtain ⟨a, vs, rfl, hl, hd⟩ := dq_lst w.jh ax
    refine ⟨a, vs, rfl, .inl ⟨.of hl, fun l hn => ?_⟩⟩
    have t := w.new (o := .tup vs) hn
    exact q _ _ _ _ t hg (.tup (.of upd_same) (t.jj.das hd))
  · obtain ⟨a, vs, rfl, hl, hd, fx⟩ := dq_tup w.jh ax
    exact ⟨a, vs, rfl, .inr ⟨hl, q _ _ J H w.tr hg fx⟩⟩
  · exact hg.elim
theorem us_lst : UnS K (fun x H Q => rLstOf K [x] H Q) gToL := fun M J H x dx w ax P hg Q q => by
  unfold gToL at hg; split at hg
  · obtain ⟨a, vs, rfl, hl, hd⟩ := dq_lst w.jh ax
    refine ⟨a, vs, rfl, .inl (.of hl), fun l hn => ?_⟩
    have t := w.new (o := .lst vs) hn
    exact q _ _ _ _ t hg (.lst upd_same (t.jj.das hd))
  · obtain ⟨a, vs, rfl, hl, hd, fx⟩ := dq_tup w.jh ax
    refine ⟨a, vs, rfl, .inr hl, fun l hn => ?_⟩
    have t := w.new (o := .lst vs) hn
    exact q _ _ _ _ t hg (.lst upd_same (t.jj.das hd))
  · exact hg.elim
theorem us_int : UnS K (fun x H Q => rInt1 [x] H Q) gInt := fun M J H x dx w ax P hg Q q => by
  unfold gInt at hg; split at hg
  · exact .inl ⟨_, by rw [dq_int ax], q _ _ J H w.tr hg (.int _)⟩
  · exact .inr ⟨_, by rw [dq_bl ax], q _ _ J H w.tr hg (.int _)⟩
  · exact hg.elim
theorem us_abs : UnS K (fun x H Q => rAbs [x] H Q) gAbs := fun M J H x dx w ax P hg Q q => by
  unfold gAbs at hg; split at hg
  · exact ⟨_, by rw [dq_int ax], q _ _ J H w.tr hg (.int _)⟩
  · exact hg.elim
theorem us_repr : UnS K (fun x H Q => rRepr K [x] H Q) gRepr := fun M J H x dx w ax P ⟨h1, h2, h3, h⟩ Q q => ⟨x, dx, rfl, ax.dp w, h1, h2, h3, q _ _ J H w.tr h (.str _)⟩
end
/-! ### parts of lists, tuples, texts -/
abbrev WO := Sl → (Option Int → Sl → Prop) → EK → Prop
def SO (K : PySem.W.Frag) (er : Ers) (W : WX) (O : Md → Prop) (to : TO) (wo : WO) : Prop := ∀ M, O M → ∀ J0 H0 Pr s σ J H, Fr K M J0 H0 Pr s σ J H → ∀ Q e, wo s Q e → ErO K er W M J0 H0 Pr e →
  ∀ Qo : Option Int → Hp → Prop, (∀ o s' J' H', Fr K M J0 H0 Pr s' σ J' H' → Sub J J' → Q o s' → Qo o H') → to σ H Qo
def woNone (s : Sl) (Q : Option Int → Sl → Prop) (_ : EK) : Prop := Q none s
def woSome (wa : WE) (s : Sl) (Q : Option Int → Sl → Prop) (e : EK) : Prop := wa s (fun a s1 => match a with
  | .d (.int i) => Q (some i) s1
  | _ => False) e
def gSl (x : PyData) (lo hi : Option Int) (k : PyData → Prop) : Prop := match x with
  | .list xs => k (.list (cut xs lo hi))
  | .tuple xs => k (.tuple (cut xs lo hi))
  | .str z => z.length ≤ sizeLine ∧ k (.str (cutS z lo hi))
  | _ => False
def rSlU (K : PySem.W.Frag) : V → Option Int → Option Int → Hp → VK → Prop := fun x lo hi H Q => rSlL K x lo hi H Q ∨ rSlA K x lo hi H Q ∨ rSlS x lo hi H Q
def wSl (wa : WE) (wl wh : WO) (s : Sl) (Q : EV → Sl → Prop) (e : EK) : Prop := wa s (fun a s1 => wl s1 (fun lo s2 => wh s2 (fun hi s3 => rdq a s3 fun x => gSl x lo hi fun z => Q (.d z) s3) e) e) e
def gRev : G1
  | .list xs, k => k (.list xs.reverse)
  | _, _ => False
section
variable {K : PySem.W.Frag} {er : Ers} {W : WX} {O : Md → Prop} {ta tb tc te : TE} {wa wb wc we : WE} {wl wh : WO} {tl th : TO}
theorem so_none : SO K er W O tNoPart woNone := fun M mo J0 H0 Pr s σ J H f Q e q he Qo k => k none s J H f (.refl _) q
theorem so_some (ha : SE K er W O ta wa) : SO K er W O (tPart ta) (woSome wa) := fun M mo J0 H0 Pr s σ J H f Q e q he Qo k =>
  ha M mo J0 H0 Pr s σ J H f _ e q he _ fun x a s1 J1 H1 f1 b1 va q1 => by
    split at q1
    · exact ⟨_, da_int va, k _ s1 J1 H1 f1 b1 q1⟩
    · exact q1.elim
theorem se_sl (ha : SE K er W O ta wa) (hl : SO K er W O tl wl) (hh : SO K er W O th wh) : SE K er W O (tSl (rSlU K) ta tl th) (wSl wa wl wh) := fun M mo J0 H0 Pr s σ J H f Q e q he Qv k =>
  ha M mo J0 H0 Pr s σ J H f _ e q he _ fun x a s1 J1 H1 f1 b1 va q1 => hl M mo J0 H0 Pr s1 σ J1 H1 f1 _ e q1 he _ fun lo s2 J2 H2 f2 b2 q2 => hh M mo J0 H0 Pr s2 σ J2 H2 f2 _ e q2 he _ fun hi s3 J3 H3 f3 b3 q3 => by
    obtain ⟨dx, q4, ax⟩ := rdq_use f3 (va.sub (b2.trans b3)) q3
    have bb := b1.trans (b2.trans b3)
    have w := f3.wf
    unfold gSl at q4
    split at q4
    · obtain ⟨a, vs, rfl, hl, hd⟩ := dq_lst w.jh ax
      refine .inl ⟨a, vs, rfl, .of hl, fun p hp => ?_⟩
      have t := w.new (o := .lst (cutV vs lo hi)) hp
      exact k _ (.d _) s3 _ _ (f3.step t) (bb.trans t.jj) (.lst upd_same (t.jj.das (das_cut hd lo hi))) q4
    · rename_i xs
      obtain ⟨a, vs, rfl, hl, hd, fx⟩ := dq_tup w.jh ax
      have hlen := das_len hd
      refine .inr (.inl ⟨a, vs, rfl, hl, fun ee => ?_, fun _ p hp => ?_⟩)
      · have ec : cut xs lo hi = xs := by
          unfold cut
          rw [hlen] at ee
          rw [ee.1, ee.2]
          simp
        rw [ec] at q4
        exact k _ (.d _) s3 _ _ f3 bb fx q4
      · have t := w.new (o := .tup (cutV vs lo hi)) hp
        exact k _ (.d _) s3 _ _ (f3.step t) (bb.trans t.jj) (.tup (.of upd_same) (t.jj.das (das_cut hd lo hi))) q4
    · exact .inr (.inr ⟨_, dq_str ax, q4.1, k _ (.d _) s3 _ _ f3 bb (.str _) q4.2⟩)
    · exact q4.elim
theorem se_rev (ha : SE K er W O ta wa) : SE K er W O (tRevL K ta) (wUn gRev wa) := fun M mo J0 H0 Pr s σ J H f Q e q he Qv k =>
  ha M mo J0 H0 Pr s σ J H f _ e q he _ fun x a s1 J1 H1 f1 b1 va q1 => by
    obtain ⟨dx, q2, ax⟩ := rdq_use f1 va q1
    unfold gRev at q2; split at q2
    · obtain ⟨a, vs, rfl, hl, hd⟩ := dq_lst f1.wf.jh ax
      refine ⟨a, vs, rfl, .of hl, fun p hp => ?_⟩
      have t := f1.wf.new (o := .lst vs.reverse) hp
      exact k _ (.d _) s1 _ _ (f1.step t) (b1.trans t.jj) (.lst upd_same (t.jj.das (das_rev hd))) q2
    · exact q2.elim
/-- a < b < c -/
def wChain (g g' : G2) (wa wb wc : WE) (s : Sl) (Q : EV → Sl → Prop) (e : EK) : Prop := wa s (fun a s1 => wb s1 (fun b s2 => rdq a s2 fun x => rdq b s2 fun y => g x y fun z => match z with
  | .bool true => wc s2 (fun c s3 => rdq b s3 fun y => rdq c s3 fun z => g' y z fun u => Q (.d u) s3) e
  | .bool false => Q (.d (.bool false)) s2
  | _ => False) e) e
theorem se_chain {r r' : R2} {g g' : G2} (o : OpS K r g) (o' : OpS K r' g') (ha : SE K er W O ta wa) (hb : SE K er W O tb wb) (hc : SE K er W O tc wc) : SE K er W O (tChain r r' ta tb tc) (wChain g g' wa wb wc) := fun M mo J0 H0 Pr s σ J H f Q e q he Qv k =>
  ha M mo J0 H0 Pr s σ J H f _ e q he _ fun x a s1 J1 H1 f1 b1 va q1 => hb M mo J0 H0 Pr s1 σ J1 H1 f1 _ e q1 he _ fun y b s2 J2 H2 f2 b2 vb q2 => by
    obtain ⟨dx, q3, ax⟩ := rdq_use f2 (va.sub b2) q2
    obtain ⟨dy, q4, ay⟩ := rdq_use f2 vb q3
    refine o M J2 H2 x y dx dy f2.wf ax ay _ q4 _ fun v d J3 H3 t3 p3 a3 => ?_
    have bb := (b1.trans b2).trans t3.jj
    split at p3
    · refine ⟨true, da_bl a3, ?_⟩
      refine hc M mo J0 H0 Pr s2 σ J3 H3 (f2.step t3) _ e p3 he _ fun z c s3 J4 H4 f4 b4 vc q5 => ?_
      obtain ⟨dy2, q6, ay2⟩ := rdq_use f4 (vb.sub (t3.jj.trans b4)) q5
      obtain ⟨dz, q7, az⟩ := rdq_use f4 vc q6
      exact o' M J4 H4 y z dy2 dz f4.wf ay2 az _ q7 _ fun v d J5 H5 t5 p5 a5 => k v (.d d) s3 J5 H5 (f4.step t5) ((bb.trans b4).trans t5.jj) a5 p5
    · exact ⟨false, da_bl a3, k _ (.d (.bool false)) s2 J3 H3 (f2.step t3) bb (.bl false) p3⟩
    · exact p3.elim
end
/-! ### isinstance with built-in classes -/
def tyOf : PyData → String
  | .none => "NoneType"
  | .bool _ => "bool"
  | .int _ => "int"
  | .str _ => "str"
  | .list _ => "list"
  | .tuple _ => "tuple"
  | .dict _ => "dict"
def isTy (d : PyData) (n : String) : Bool := decide (tyOf d = n) || (decide (tyOf d = "bool") && decide (n = "int"))
def tys : List String := ["int", "bool", "str", "list", "tuple", "dict"]
def wIsi (n : String) (wa : WE) (s : Sl) (Q : EV → Sl → Prop) (e : EK) : Prop := wa s (fun a s1 => rdq a s1 fun x => Q (.d (.bool (isTy x n))) s1) e
def wIsi2 (n m : String) (wa : WE) (s : Sl) (Q : EV → Sl → Prop) (e : EK) : Prop := wa s (fun a s1 => rdq a s1 fun x => Q (.d (.bool (isTy x n || isTy x m))) s1) e
section
variable {K : PySem.W.Frag} {er : Ers} {W : WX} {O : Md → Prop} {ta tb tc te : TE} {wa wb wc we : WE} {J H : Hp} {v : V} {d : PyData}
theorem ty_dq (w : Sub J H) (h : Dq K J H v d) : TyX K H v (.type (tyOf d)) := by
  rcases h with h | ⟨p, vs, xs, rfl, rfl, hp, a⟩
  · cases h with
    | non => exact .base .non
    | bl b => exact .base (.bl b)
    | int i => exact .base (.int i)
    | str x => exact .base (.str x)
    | lst a b => exact .base (.lst (w _ _ a))
    | tup a b => exact ty_tup (.tup a b) w
  · exact .base (.lst hp)
theorem kit_key : ∀ t ∈ ["NoneType", "bool", "int", "str", "list", "tuple", "dict"], ∀ n ∈ tys, kitB t n = some (decide (t = n) || (decide (t = "bool") && decide (n = "int"))) := by decide +kernel
theorem kit_one (n : String) (hn : n ∈ tys) : PySem.W.kitOne K (.type (tyOf d)) (.type n) = some (isTy d n) := by
  refine kit_ty (kit_key _ ?_ n hn)
  cases d <;> simp [tyOf]
theorem se_isi {n : String} (hn : n ∈ tys) (ha : SE K er W O ta wa) : SE K er W O (tCB (rIsi K) (tCons ta (tCons (tC (.ty n)) tNil))) (wIsi n wa) := fun M mo J0 H0 Pr s σ J H f Q e q he Qv k =>
  ha M mo J0 H0 Pr s σ J H f _ e q he _ fun x a s1 J1 H1 f1 b1 va q1 => by
    obtain ⟨dx, q2, ax⟩ := rdq_use f1 va q1
    exact ⟨x, .ty n, .type (tyOf dx), .type n, _, rfl, .ty _, ty_dq f1.wf.jh ax, kit_one n hn, k _ (.d _) s1 J1 H1 f1 b1 (.bl _) q2⟩
theorem kit_any {n m : String} (hn : n ∈ tys) (hm : m ∈ tys) : PySem.W.kitAny K (.type (tyOf d)) [.type n, .type m] = some (isTy d n || isTy d m) := by
  unfold PySem.W.kitAny
  rw [kit_one n hn]
  cases h : isTy d n with
  | true => rfl
  | false =>
    dsimp only
    unfold PySem.W.kitAny
    rw [kit_one m hm]
    cases h2 : isTy d m <;> rfl
theorem se_isi2 {n m : String} (hn : n ∈ tys) (hm : m ∈ tys) (ha : SE K er W O ta wa) : SE K er W O (tCB (rIsiT K) (tCons ta (tCons (tTup (tCons (tC (.ty n)) (tCons (tC (.ty m)) tNil))) tNil))) (wIsi2 n m wa) := fun M mo J0 H0 Pr s σ J H f Q e q he Qv k =>
  ha M mo J0 H0 Pr s σ J H f _ e q he _ fun x a s1 J1 H1 f1 b1 va q1 => by
    refine ⟨by show 2 ≤ sizeLine; decide, fun p hp => ?_⟩
    have t := f1.wf.new (o := .tup [.ty n, .ty m]) hp
    have f2 := f1.step t
    obtain ⟨dx, q2, ax⟩ := rdq_use f2 (va.sub t.jj) q1
    exact ⟨x, p, [.ty n, .ty m], .type (tyOf dx), [.type n, .type m], _, rfl, upd_same, .cons (.ty _) (.cons (.ty _) .nil), ty_dq f2.wf.jh ax, kit_any hn hm, k _ (.d _) s1 _ _ f2 (b1.trans t.jj) (.bl _) q2⟩
end
end DW

/-! Statements, told in data. -/
namespace DW
open PySem PySem.Spec
open PyProof.Rows L2 DL
/-- what is wanted behind a statement -/
structure EW where
  nx : Sl → Prop
  rt : PyData → Sl → Prop
  bk : Sl → Prop
  ct : Sl → Prop
  er : EK
abbrev WS := Sl → EW → Prop
structure EndOk (K : PySem.W.Frag) (M : Md) (J0 H0 : Hp) (Pr : List (Addr × HO)) (Jb : Hp) (D : Ends) (E : EW) : Prop where
  nx : ∀ s σ J H, Fr K M J0 H0 Pr s σ J H → Sub Jb J → E.nx s → D.nx σ H
  rt : ∀ v d s σ J H, Fr K M J0 H0 Pr s σ J H → Sub Jb J → E.rt d s → Da K J v d → D.rt v H
  bk : ∀ s σ J H, Fr K M J0 H0 Pr s σ J H → Sub Jb J → E.bk s → D.bk σ H
  ct : ∀ s σ J H, Fr K M J0 H0 Pr s σ J H → Sub Jb J → E.ct s → D.ct σ H
theorem EndOk.sub {K : PySem.W.Frag} {M : Md} {J0 H0 Jb J : Hp} {Pr : List (Addr × HO)} {D : Ends} {E : EW} (h : EndOk K M J0 H0 Pr Jb D E) (s : Sub Jb J) : EndOk K M J0 H0 Pr J D E :=
  ⟨fun a b c d f z => h.nx a b c d f (s.trans z), fun u a b c d e f z => h.rt u a b c d e f (s.trans z), fun a b c d f z => h.bk a b c d f (s.trans z), fun a b c d f z => h.ct a b c d f (s.trans z)⟩
def SS (K : PySem.W.Frag) (er : Ers) (W : WX) (O : Md → Prop) (ts : TS) (ws : WS) : Prop := ∀ M, O M → ∀ J0 H0 Pr s σ J H, Fr K M J0 H0 Pr s σ J H → ∀ E D, ws s E → EndOk K M J0 H0 Pr J D E → ErO K er W M J0 H0 Pr E.er → ts D σ H
/-- a target -/
abbrev WG := PyData → Sl → (Sl → Prop) → Prop
abbrev WGs := List PyData → Sl → (Sl → Prop) → Prop
def SG (K : PySem.W.Frag) (tg : TG) (wg : WG) : Prop := ∀ M J0 H0 Pr s σ J H v x, Fr K M J0 H0 Pr s σ J H → Da K J v x → ∀ Q, wg x s Q → ∀ Qt : L2.St → Hp → Prop, (∀ s' σ', Fr K M J0 H0 Pr s' σ' J H → Q s' → Qt σ' H) → tg v σ H Qt
def SGs (K : PySem.W.Frag) (tg : TGs) (wg : WGs) : Prop := ∀ M J0 H0 Pr s σ J H vs xs, Fr K M J0 H0 Pr s σ J H → Das K J vs xs → ∀ Q, wg xs s Q → ∀ Qt : L2.St → Hp → Prop, (∀ s' σ', Fr K M J0 H0 Pr s' σ' J H → Q s' → Qt σ' H) → tg vs σ H Qt
def wgName (k : Nat) (x : PyData) (s : Sl) (Q : Sl → Prop) : Prop := Q (s.set k (some (.d x)))
def wgNil (xs : List PyData) (s : Sl) (Q : Sl → Prop) : Prop := xs = [] ∧ Q s
def wgCons (g : WG) (gs : WGs) (xs : List PyData) (s : Sl) (Q : Sl → Prop) : Prop := match xs with
  | x :: xs => g x s fun s1 => gs xs s1 Q
  | [] => False
def wgTup (n : Nat) (gs : WGs) (x : PyData) (s : Sl) (Q : Sl → Prop) : Prop := match x with
  | .tuple xs => xs.length = n ∧ gs xs s Q
  | _ => False
section
variable {K : PySem.W.Frag} {g : TG} {gs : TGs} {wg : WG} {wgs : WGs}
theorem sg_name {k : Nat} : SG K (gName k) (wgName k) := fun M J0 H0 Pr s σ J H v x f a Q q Qt k => k _ _ (f.set a) q
theorem sg_nil : SGs K gNil wgNil := fun M J0 H0 Pr s σ J H vs xs f a Q q Qt k => by
  obtain ⟨rfl, q⟩ := q
  cases a
  exact ⟨rfl, k s σ f q⟩
theorem sg_cons (h : SG K g wg) (h2 : SGs K gs wgs) : SGs K (gCons g gs) (wgCons wg wgs) := fun M J0 H0 Pr s σ J H vs xs f a Q q Qt k => by
  cases a with
  | nil => exact q.elim
  | cons a b => exact ⟨_, _, rfl, h M J0 H0 Pr s σ J H _ _ f a _ q _ fun s1 σ1 f1 q1 => h2 M J0 H0 Pr s1 σ1 J H _ _ f1 b Q q1 Qt k⟩
theorem sg_tup {n : Nat} (h : SGs K gs wgs) : SG K (gTup K n gs) (wgTup n wgs) := fun M J0 H0 Pr s σ J H v x f a Q q Qt k => by
  unfold wgTup at q; split at q
  · obtain ⟨p, vs, rfl, ht, hd⟩ := da_tup a
    exact ⟨p, vs, rfl, f.wf.jh.t ht, by rw [das_len hd]; exact q.1, h M J0 H0 Pr s σ J H vs _ f hd Q q.2 Qt k⟩
  · exact q.elim
end
/-! ### plain statements -/
def wNext (s : Sl) (E : EW) : Prop := E.nx s
/-- what follows, kept shut -/
def Kt (w : WS) (E : EW) (s : Sl) : Prop := w s E
def wSeq (wa wb : WS) (s : Sl) (E : EW) : Prop := wa s { E with nx := Kt wb E }
/-- a name is given what came -/
def asg (k : Nat) (r : EV) (s : Sl) (Q : Sl → Prop) : Prop := match r with
  | .d x => Q (s.set k (some (.d x)))
  | .raw u => Q (s.set k (some (.raw u)))
  | .at i => match s[i]? with
    | some (some (.own xs)) => Q ((s.set i (some (.d (.list xs)))).set k (some (.d (.list xs))))
    | some (some .drw) => Q (s.set k (some .drw))
    | _ => False
def wSet (k : Nat) (we : WE) (s : Sl) (E : EW) : Prop := we s (fun r s1 => asg k r s1 E.nx) E.er
def wAsg (we : WE) (g : WG) (s : Sl) (E : EW) : Prop := we s (fun r s1 => frz r s1 fun x s2 => g x s2 E.nx) E.er
def wNew (k : Nat) (s : Sl) (E : EW) : Prop := E.nx (s.set k (some (.own [])))
def wNewL (k : Nat) (wl : WA) (s : Sl) (E : EW) : Prop := wl s (fun xs s1 => xs.length ≤ sizeLine ∧ E.nx (s1.set k (some (.own xs)))) E.er
/-- x = list(e), a list of one's own -/
def wNewC (k : Nat) (we : WE) (s : Sl) (E : EW) : Prop := we s (fun r s1 => rdq r s1 fun x => match x with
  | .list xs => E.nx (s1.set k (some (.own xs)))
  | .tuple xs => E.nx (s1.set k (some (.own xs)))
  | _ => False) E.er
def wPar (k l : Nat) (wl : WA) (s : Sl) (E : EW) : Prop := wl s (fun xs s1 => match xs with
  | [x, y] => E.nx ((s1.set k (some (.d x))).set l (some (.d y)))
  | _ => False) E.er
def wPar3 (k l m : Nat) (wl : WA) (s : Sl) (E : EW) : Prop := wl s (fun xs s1 => match xs with
  | [x, y, z] => E.nx (((s1.set k (some (.d x))).set l (some (.d y))).set m (some (.d z)))
  | _ => False) E.er
def wExpr (we : WE) (s : Sl) (E : EW) : Prop := we s (fun _ s1 => E.nx s1) E.er
def wApp (k : Nat) (we : WE) (s : Sl) (E : EW) : Prop := (∃ xs, s[k]? = some (some (.own xs))) ∧ we s (fun r s1 => frz r s1 fun x s2 => match s2[k]? with
  | some (some (.own xs)) => xs.length < sizeLine ∧ E.nx (s2.set k (some (.own (xs ++ [x]))))
  | _ => False) E.er
def wPop (k : Nat) (s : Sl) (Q : EV → Sl → Prop) (_ : EK) : Prop := match s[k]? with
  | some (some (.own xs)) => ∃ ys y, xs = ys ++ [y] ∧ Q (.d y) (s.set k (some (.own ys)))
  | _ => False
def wExt (k : Nat) (we : WE) (s : Sl) (E : EW) : Prop := (∃ xs, s[k]? = some (some (.own xs))) ∧ we s (fun r s1 => rdq r s1 fun x => match s1[k]? with
  | some (some (.own xs)) => (match x with
    | .list ys => xs.length + ys.length ≤ sizeLine ∧ E.nx (s1.set k (some (.own (xs ++ ys))))
    | _ => False)
  | _ => False) E.er
def wIfS (wt : WT) (wa wb : WS) (s : Sl) (E : EW) : Prop := wt s (fun b s1 => if b = true then wa s1 E else wb s1 E) E.er
def wRet (we : WE) (s : Sl) (E : EW) : Prop := we s (fun r s1 => frz r s1 fun x s2 => E.rt x s2) E.er
def wRetN (s : Sl) (E : EW) : Prop := E.rt .none s
def wBreak (s : Sl) (E : EW) : Prop := E.bk s
def wCont (s : Sl) (E : EW) : Prop := E.ct s
def wAug (k : Nat) (g : G2) (we : WE) (s : Sl) (E : EW) : Prop := match s[k]? with
  | some (some (.d x)) => we s (fun r s1 => rdq r s1 fun y => g x y fun z => E.nx (s1.set k (some (.d z)))) E.er
  | _ => False
def wWhile (wt : WT) (wb : WS) (s : Sl) (E : EW) : Prop := ∃ I : Nat → Sl → Prop, (∃ m, I m s) ∧ ∀ m s1, I m s1 → wt s1 (fun b s2 => if b = true then wb s2 { E with nx := fun s3 => ∃ m', m' < m ∧ I m' s3, ct := fun s3 => ∃ m', m' < m ∧ I m' s3, bk := E.nx } else E.nx s2) E.er
def wRaise (c : Str) (we : WE) (s : Sl) (E : EW) : Prop := we s (fun r s1 => frz r s1 fun x s2 => E.er c x s2) E.er
section
variable {K : PySem.W.Frag} {er : Ers} {W : WX} {O : Md → Prop} {ta tb tc te : TE} {tt tu : TT} {t : TA} {wa wb wc we : WE} {wt wu : WT} {wl : WA} {ts us : TS} {ws vs : WS} {M : Md} {J0 H0 J H : Hp} {Pr : List (Addr × HO)} {s : Sl} {σ : L2.St} {v : V} {r : EV}
theorem ss_nil : SS K er W O tNext wNext := fun M mo J0 H0 Pr s σ J H f E D q k he => k.nx s σ J H f (.refl _) q
theorem ss_seq (h : SS K er W O ts ws) (h2 : SS K er W O us vs) : SS K er W O (tSeq ts us) (wSeq ws vs) := fun M mo J0 H0 Pr s σ J H f E D q k he =>
  h M mo J0 H0 Pr s σ J H f { E with nx := Kt vs E } _ q ⟨fun s1 σ1 J1 H1 f1 b1 q1 => h2 M mo J0 H0 Pr s1 σ1 J1 H1 f1 E D q1 (k.sub b1) he, k.rt, k.bk, k.ct⟩ he
theorem asg_use {k : Nat} {Q : Sl → Prop} (f : Fr K M J0 H0 Pr s σ J H) (h : Ve K J σ v r) (q : asg k r s Q) : ∃ s' J', Q s' ∧ Sub J J' ∧ Fr K M J0 H0 Pr s' (σ.set k (some v)) J' H := by
  cases r with
  | d x => exact ⟨_, J, q, .refl _, f.set h⟩
  | raw u => exact ⟨_, J, q, .refl _, f.put (y := .raw u) (show v = u from h) nofun⟩
  | «at» i =>
    unfold asg at q
    dsimp only at q
    split at q
    · rename_i xs e
      obtain ⟨J', u, hu, sb, a, f'⟩ := f.ice e
      rw [show σ[i]? = some (some v) from h] at hu
      cases hu
      exact ⟨_, J', q, sb, f'.set a⟩
    · rename_i e
      obtain ⟨u, hu, a⟩ := f.at_ i _ e
      rw [show σ[i]? = some (some v) from h] at hu
      cases hu
      exact ⟨_, J, q, .refl _, f.put (y := .drw) a nofun⟩
    · exact q.elim
theorem ss_set {k : Nat} (h : SE K er W O te we) : SS K er W O (tAsg te (gName k)) (wSet k we) := fun M mo J0 H0 Pr s σ J H f E D q kk he =>
  h M mo J0 H0 Pr s σ J H f _ _ q he _ fun v r s1 J1 H1 f1 b1 va q1 => by
    obtain ⟨s2, J2, q2, b2, f2⟩ := asg_use f1 va q1
    exact kk.nx _ _ _ _ f2 (b1.trans b2) q2
theorem ss_asg {g : TG} {wg : WG} (h : SE K er W O te we) (hg : SG K g wg) : SS K er W O (tAsg te g) (wAsg we wg) := fun M mo J0 H0 Pr s σ J H f E D q kk he =>
  h M mo J0 H0 Pr s σ J H f _ _ q he _ fun v r s1 J1 H1 f1 b1 va q1 => by
    obtain ⟨x, s2, J2, q2, b2, a2, f2⟩ := frz_use f1 va q1
    exact hg M J0 H0 Pr s2 σ J2 H1 v x f2 a2 _ q2 _ fun s3 σ3 f3 q3 => kk.nx _ _ _ _ f3 (b1.trans b2) q3
theorem ss_new {k : Nat} : SS K er W O (tAsg (tLst tNil) (gName k)) (wNew k) := fun M mo J0 H0 Pr s σ J H f E D q kk he =>
  ⟨Nat.zero_le _, fun p hp => kk.nx _ _ _ _ (f.new hp .nil) (.refl _) q⟩
theorem ss_newL {k : Nat} (h : SA K er W O t wl) : SS K er W O (tAsg (tLst t) (gName k)) (wNewL k wl) := fun M mo J0 H0 Pr s σ J H f E D q kk he =>
  h M mo J0 H0 Pr s σ J H f _ _ q he _ fun vs ds s1 J1 H1 f1 b1 a1 ⟨hl, q1⟩ => ⟨by rw [das_len a1]; exact hl, fun p hp => kk.nx _ _ _ _ (f1.new hp a1) b1 q1⟩
theorem ss_newC {k : Nat} (h : SE K er W O te we) : SS K er W O (tAsg (tCB (rLstOf K) (tCons te tNil)) (gName k)) (wNewC k we) := fun M mo J0 H0 Pr s σ J H f E D q kk he =>
  h M mo J0 H0 Pr s σ J H f _ _ q he _ fun v r s1 J1 H1 f1 b1 va q1 => by
    obtain ⟨x, q2, ax⟩ := rdq_use f1 va q1
    split at q2
    · obtain ⟨a, vs, rfl, hl, hd⟩ := dq_lst f1.wf.jh ax
      exact ⟨a, vs, rfl, .inl (.of hl), fun l hn => kk.nx _ _ _ _ (f1.new hn hd) b1 q2⟩
    · obtain ⟨a, vs, rfl, hl, hd, _⟩ := dq_tup f1.wf.jh ax
      exact ⟨a, vs, rfl, .inr hl, fun l hn => kk.nx _ _ _ _ (f1.new hn hd) b1 q2⟩
    · exact q2.elim
theorem ss_par {k l : Nat} (h : SA K er W O t wl) : SS K er W O (tPar k l t) (wPar k l wl) := fun M mo J0 H0 Pr s σ J H f E D q kk he =>
  h M mo J0 H0 Pr s σ J H f _ _ q he _ fun vs ds s1 J1 H1 f1 b1 a1 q1 => by
    split at q1
    · cases a1 with
      | cons a b =>
        obtain ⟨u, rfl, b2⟩ := das_one b
        exact ⟨_, _, rfl, kk.nx _ _ _ _ ((f1.set a).set b2) b1 q1⟩
    · exact q1.elim
theorem ss_par3 {k l m : Nat} (h : SA K er W O t wl) : SS K er W O (tPar3 k l m t) (wPar3 k l m wl) := fun M mo J0 H0 Pr s σ J H f E D q kk he =>
  h M mo J0 H0 Pr s σ J H f _ _ q he _ fun vs ds s1 J1 H1 f1 b1 a1 q1 => by
    split at q1
    · cases a1 with
      | cons a b =>
        cases b with
        | cons b c =>
          obtain ⟨u, rfl, c2⟩ := das_one c
          exact ⟨_, _, _, rfl, kk.nx _ _ _ _ (((f1.set a).set b).set c2) b1 q1⟩
    · exact q1.elim
theorem ss_expr (h : SE K er W O te we) : SS K er W O (tDrop te) (wExpr we) := fun M mo J0 H0 Pr s σ J H f E D q kk he =>
  h M mo J0 H0 Pr s σ J H f _ _ q he _ fun v r s1 J1 H1 f1 b1 va q1 => kk.nx _ _ _ _ f1 b1 q1
theorem ss_app {k : Nat} (h : SE K er W O te we) : SS K er W O (tDrop (tBM K "list" rAppend (tVar k) (tCons te tNil))) (wApp k we) := fun M mo J0 H0 Pr s σ J H f E D ⟨⟨xs, hk⟩, q⟩ kk he => by
  obtain ⟨p, vs, hp, hH, _⟩ := f.own hk
  refine ⟨.ref p, hp, .inl ⟨rfl, vs, .of hH⟩, h M mo J0 H0 Pr s σ J H f _ _ q he _ fun v r s1 J1 H1 f1 b1 va q1 => ?_⟩
  obtain ⟨x, s2, J2, q2, b2, a2, f2⟩ := frz_use f1 va q1
  split at q2
  · rename_i ys e
    obtain ⟨p', us, hp', hH', a', _⟩ := f2.own e
    rw [hp] at hp'
    cases hp'
    exact ⟨p, us, v, rfl, rfl, hH', by rw [das_len a']; exact q2.1, kk.nx _ _ _ _ (f2.write e hp (das_app a' (.cons a2 .nil))) (b1.trans b2) q2.2⟩
  · exact q2.elim
theorem se_pop {k : Nat} : SE K er W O (tBM0 K "list" rPop (tVar k)) (wPop k) := fun M mo J0 H0 Pr s σ J H f Q e q he Qv kk => by
  unfold wPop at q
  split at q
  · rename_i xs hk
    obtain ⟨ys, y, rfl, q⟩ := q
    obtain ⟨p, vs, hp, hH, a, _⟩ := f.own hk
    obtain ⟨u, hu, au⟩ := das_get (i := ys.length) (d := y) a (by simp)
    have hl : vs.length = ys.length + 1 := by rw [das_len a]; simp
    have ad : Das K J vs.dropLast ys := by
      have e : vs.dropLast = vs.take ys.length := by rw [List.dropLast_eq_take, hl]; rfl
      have e2 : ys = (ys ++ [y]).take ys.length := by simp
      rw [e, e2]
      have := das_take ys.length a
      simpa using this
    refine ⟨.ref p, hp, .inl ⟨rfl, vs, .of hH⟩, p, vs, u, rfl, rfl, hH, by rw [hl]; exact hu, kk u (.d y) _ J _ (f.write hk hp ad) (.refl _) au q⟩
  · exact q.elim
theorem ss_ext {k : Nat} (h : SE K er W O te we) : SS K er W O (tDrop (tBM K "list" rExtend (tVar k) (tCons te tNil))) (wExt k we) := fun M mo J0 H0 Pr s σ J H f E D ⟨⟨xs, hk⟩, q⟩ kk he => by
  obtain ⟨p, vs, hp, hH, _⟩ := f.own hk
  refine ⟨.ref p, hp, .inl ⟨rfl, vs, .of hH⟩, h M mo J0 H0 Pr s σ J H f _ _ q he _ fun v r s1 J1 H1 f1 b1 va q1 => ?_⟩
  obtain ⟨x, q2, ax⟩ := rdq_use f1 va q1
  split at q2
  · rename_i xs e
    obtain ⟨p', us, hp', hH', a', _⟩ := f1.own e
    rw [hp] at hp'
    cases hp'
    split at q2
    · obtain ⟨b, ws, rfl, hl, hd⟩ := dq_lst f1.wf.jh ax
      exact ⟨p, b, us, ws, rfl, rfl, hH', hl, by rw [das_len a', das_len hd]; exact q2.1, kk.nx _ _ _ _ (f1.write e hp (das_app a' hd)) b1 q2.2⟩
    · exact q2.elim
  · exact q2.elim
theorem ss_if (hc : ST K er W O tt wt) (h : SS K er W O ts ws) (h2 : SS K er W O us vs) : SS K er W O (tIfS tt ts us) (wIfS wt ws vs) := fun M mo J0 H0 Pr s σ J H f E D q kk he =>
  hc M mo J0 H0 Pr s σ J H f _ _ q he _ fun b s1 J1 H1 f1 b1 q1 => by
    cases b with
    | true => exact h M mo J0 H0 Pr s1 σ J1 H1 f1 E D q1 (kk.sub b1) he
    | false => exact h2 M mo J0 H0 Pr s1 σ J1 H1 f1 E D q1 (kk.sub b1) he
theorem ss_ret (h : SE K er W O te we) : SS K er W O (tRet te) (wRet we) := fun M mo J0 H0 Pr s σ J H f E D q kk he =>
  h M mo J0 H0 Pr s σ J H f _ _ q he _ fun v r s1 J1 H1 f1 b1 va q1 => by
    obtain ⟨x, s2, J2, q2, b2, a2, f2⟩ := frz_use f1 va q1
    exact kk.rt _ _ _ _ _ _ f2 (b1.trans b2) q2 a2
theorem ss_retN : SS K er W O tRetN wRetN := fun M mo J0 H0 Pr s σ J H f E D q kk he => kk.rt _ _ _ _ _ _ f (.refl _) q .non
theorem ss_brk : SS K er W O tBreak wBreak := fun M mo J0 H0 Pr s σ J H f E D q kk he => kk.bk _ _ _ _ f (.refl _) q
theorem ss_cont : SS K er W O tCont wCont := fun M mo J0 H0 Pr s σ J H f E D q kk he => kk.ct _ _ _ _ f (.refl _) q
theorem ss_aug {k : Nat} {ti : TIp} {g : G2} (o : OpS K ti g) (h : SE K er W O te we) : SS K er W O (tAug k te ti) (wAug k g we) := fun M mo J0 H0 Pr s σ J H f E D q kk he => by
  unfold wAug at q
  split at q
  · rename_i x hk
    obtain ⟨u, hu, a⟩ := f.at_ k _ hk
    refine ⟨u, hu, h M mo J0 H0 Pr s σ J H f _ _ q he _ fun v r s1 J1 H1 f1 b1 va q1 => ?_⟩
    obtain ⟨y, q2, ay⟩ := rdq_use f1 va q1
    exact o M J1 H1 u v x y f1.wf (.inl (b1.da a)) ay _ q2 _ fun z d J2 H2 t2 p2 a2 => kk.nx _ _ _ _ ((f1.step t2).set a2) (b1.trans t2.jj) p2
  · exact q.elim
theorem ss_while (hc : ST K er W O tt wt) (h : SS K er W O ts ws) : SS K er W O (tWhile tt ts) (wWhile wt ws) := fun M mo J0 H0 Pr s σ J H f E D ⟨I, ⟨m0, i0⟩, q⟩ kk he => by
  refine ⟨fun m σ' G => ∃ s' J', Fr K M J0 H0 Pr s' σ' J' G ∧ Sub J J' ∧ I m s', ⟨m0, s, J, f, .refl _, i0⟩, ?_⟩
  rintro m σ' G ⟨s', J', f', b', hI⟩
  refine hc M mo J0 H0 Pr s' σ' J' G f' _ _ (q m s' hI) he _ fun b s1 J1 H1 f1 b1 q1 => ?_
  cases b with
  | true =>
    refine ⟨fun σ2 G2 => ∃ m', m' < m ∧ ∃ s' J', Fr K M J0 H0 Pr s' σ2 J' G2 ∧ Sub J J' ∧ I m' s', fun σ2 G2 ⟨m', lt, r⟩ => ⟨m', lt, r⟩, ?_⟩
    exact h M mo J0 H0 Pr s1 σ' J1 H1 f1 _ _ q1 ⟨fun s2 σ2 J2 H2 f2 b2 ⟨m', lt, i2⟩ => ⟨m', lt, s2, J2, f2, (b'.trans b1).trans b2, i2⟩, fun v d s2 σ2 J2 H2 f2 b2 => kk.rt v d s2 σ2 J2 H2 f2 ((b'.trans b1).trans b2),
      fun s2 σ2 J2 H2 f2 b2 => kk.nx s2 σ2 J2 H2 f2 ((b'.trans b1).trans b2), fun s2 σ2 J2 H2 f2 b2 ⟨m', lt, i2⟩ => ⟨m', lt, s2, J2, f2, (b'.trans b1).trans b2, i2⟩⟩ he
  | false => exact kk.nx _ _ _ _ f1 (b'.trans b1) q1
end
/-! ### what is walked -/
abbrev WI := Sl → (List PyData → Sl → Prop) → EK → Prop
def SI (K : PySem.W.Frag) (er : Ers) (W : WX) (O : Md → Prop) (wi : TI) (ww : WI) : Prop := ∀ M, O M → ∀ J0 H0 Pr s σ J H, Fr K M J0 H0 Pr s σ J H → ∀ Q e, ww s Q e → ErO K er W M J0 H0 Pr e →
  ∀ R : L2.It → Hp → Prop, (∀ A ds s' J' H', Fr K M J0 H0 Pr s' σ J' H' → Sub J J' → WalkD K A J' ds → Q ds s' → R A H') → wi σ H R
theorem walk_lst {K : PySem.W.Frag} {J : Hp} {p : Addr} {xs : List V} {ds : List PyData} (hl : J p = some (.lst xs)) (hd : Das K J xs ds) : WalkD K (Itl K p) J ds := by
  refine ⟨fun i G hi s => ?_, fun G s => ⟨xs, .of (s _ _ hl), by rw [das_len hd]; exact Nat.le_refl _⟩, fun i G x G' d hd' s y => ?_⟩
  · have hi2 : i < xs.length := by rw [das_len hd]; exact hi
    exact ⟨xs, xs[i], .of (s _ _ hl), List.getElem?_eq_getElem hi2⟩
  · obtain ⟨e, y⟩ := y
    obtain ⟨d2, e2, a2⟩ := das_at hd (y xs (.of (s _ _ hl)))
    rw [hd'] at e2
    cases e2
    exact .inl ⟨e, a2⟩
theorem walk_tup {K : PySem.W.Frag} {J : Hp} {p : Addr} {xs : List V} {ds : List PyData} (hl : SqT K J p xs) (hd : Das K J xs ds) : WalkD K (Itt K p) J ds := by
  refine ⟨fun i G hi s => ?_, fun G s => ⟨xs, s.t hl, by rw [das_len hd]; exact Nat.le_refl _⟩, fun i G x G' d hd' s y => ?_⟩
  · have hi2 : i < xs.length := by rw [das_len hd]; exact hi
    exact ⟨xs, xs[i], s.t hl, List.getElem?_eq_getElem hi2⟩
  · obtain ⟨e, y⟩ := y
    obtain ⟨d2, e2, a2⟩ := das_at hd (y xs (s.t hl))
    rw [hd'] at e2
    cases e2
    exact .inl ⟨e, a2⟩
/-- the things of a list or a tuple, the signs of a text -/
def signsD (z : Str) : List PyData := z.cps.toList.map fun c => .str ⟨#[c]⟩
def iSeqS (K : PySem.W.Frag) (te : TE) : TI := fun σ H R => te σ H fun x G => (∃ a xs, x = .ref a ∧ ((SqL K G a xs ∧ R (Itl K a) G) ∨ (SqT K G a xs ∧ R (Itt K a) G))) ∨ ∃ z, x = .str z ∧ R (Its z) G
def wiSeq (we : WE) (s : Sl) (Q : List PyData → Sl → Prop) (e : EK) : Prop := we s (fun r s1 => frz r s1 fun x s2 => match x with
  | .list xs => Q xs s2
  | .tuple xs => Q xs s2
  | .str z => Q (signsD z) s2
  | _ => False) e
/-- i, i + 1, .. below j -/
def rngD (i j : Int) : List PyData := (List.range (j - i).toNat).map fun k => .int (i + (k : Nat))
def wiRng1 (wl : WA) (s : Sl) (Q : List PyData → Sl → Prop) (e : EK) : Prop := wl s (fun xs s1 => match xs with
  | [.int j] => (-(2 ^ 62) ≤ j ∧ j < 2 ^ 62) ∧ Q (rngD 0 j) s1
  | _ => False) e
def wiRng2 (wl : WA) (s : Sl) (Q : List PyData → Sl → Prop) (e : EK) : Prop := wl s (fun xs s1 => match xs with
  | [.int i, .int j] => (-(2 ^ 62) ≤ i ∧ i < 2 ^ 62 ∧ -(2 ^ 62) ≤ j ∧ j < 2 ^ 62) ∧ Q (rngD i j) s1
  | _ => False) e
def wiEnum (wl : WA) (s : Sl) (Q : List PyData → Sl → Prop) (e : EK) : Prop := wl s (fun xs s1 => match xs with
  | [.list ds] => Q (enumD ds) s1
  | _ => False) e
theorem rngD_len (i j : Int) : (rngD i j).length = (j - i).toNat := by unfold rngD; simp
theorem rngD_at {i j : Int} {k : Nat} {d : PyData} (h : (rngD i j)[k]? = some d) : d = .int (i + k) ∧ (k : Int) < j - i := by
  unfold rngD at h
  rw [List.getElem?_map] at h
  by_cases hk : k < (j - i).toNat
  · rw [List.getElem?_range hk] at h
    exact ⟨(Option.some.inj h).symm, by omega⟩
  · rw [List.getElem?_eq_none (by simp; omega)] at h
    cases h
theorem signsD_len (z : Str) : (signsD z).length = z.cps.size := by unfold signsD; simp
theorem signsD_at {z : Str} {k : Nat} {d : PyData} (h : (signsD z)[k]? = some d) : ∃ c, z.cps.toList[k]? = some c ∧ d = .str ⟨#[c]⟩ := by
  unfold signsD at h
  rw [List.getElem?_map] at h
  cases q : z.cps.toList[k]? with
  | none => rw [q] at h; cases h
  | some c => rw [q] at h; exact ⟨c, rfl, (Option.some.inj h).symm⟩
section
variable {K : PySem.W.Frag} {er : Ers} {W : WX} {O : Md → Prop} {te : TE} {t : TA} {we : WE} {wl : WA}
theorem si_seq (h : SE K er W O te we) : SI K er W O (iSeqS K te) (wiSeq we) := fun M mo J0 H0 Pr s σ J H f Q e q he R k =>
  h M mo J0 H0 Pr s σ J H f _ e q he _ fun v r s1 J1 H1 f1 b1 va q1 => by
    obtain ⟨x, s2, J2, q2, b2, a2, f2⟩ := frz_use f1 va q1
    have bb := b1.trans b2
    split at q2
    · obtain ⟨p, xs, rfl, hl, hd⟩ := da_lst a2
      exact .inl ⟨p, xs, rfl, .inl ⟨.of (f2.wf.jh _ _ hl), k _ _ s2 J2 H1 f2 bb (walk_lst hl hd) q2⟩⟩
    · obtain ⟨p, xs, rfl, hl, hd⟩ := da_tup a2
      exact .inl ⟨p, xs, rfl, .inr ⟨f2.wf.jh.t hl, k _ _ s2 J2 H1 f2 bb (walk_tup hl hd) q2⟩⟩
    · rename_i z
      refine .inr ⟨z, da_str a2, k _ _ s2 J2 H1 f2 bb ⟨fun i G hi _ => ?_, fun G _ => ?_, fun i G x G' d hd' _ y => ?_⟩ q2⟩
      · rw [signsD_len] at hi; exact hi
      · rw [signsD_len]; exact Nat.le_refl _
      · obtain ⟨e1, c, ec, rfl⟩ := y
        obtain ⟨c', ec', rfl⟩ := signsD_at hd'
        rw [Array.getElem?_toList, ec] at ec'
        cases ec'
        exact .inl ⟨e1, .str _⟩
    · exact q2.elim
theorem si_rng1 (h : SA K er W O t wl) : SI K er W O (iRng1 t) (wiRng1 wl) := fun M mo J0 H0 Pr s σ J H f Q e q he R k =>
  h M mo J0 H0 Pr s σ J H f _ e q he _ fun vs ds s1 J1 H1 f1 b1 a1 q1 => by
    split at q1
    · rename_i j
      obtain ⟨u, rfl, a⟩ := das_one a1
      refine ⟨j, by rw [da_int a], q1.1.1, q1.1.2, k _ _ s1 J1 H1 f1 b1 ⟨fun i G hi _ => ?_, fun G _ => ?_, fun i G x G' d hd' _ y => ?_⟩ q1.2⟩
      · rw [rngD_len] at hi
        show i < j.toNat
        omega
      · show j.toNat ≤ _
        rw [rngD_len]; omega
      · obtain ⟨e1, e2⟩ := y
        obtain ⟨e3, _⟩ := rngD_at hd'
        rw [e3, e2]
        exact .inl ⟨e1, .int _⟩
    · exact q1.elim
theorem si_rng2 (h : SA K er W O t wl) : SI K er W O (iRng2 t) (wiRng2 wl) := fun M mo J0 H0 Pr s σ J H f Q e q he R k =>
  h M mo J0 H0 Pr s σ J H f _ e q he _ fun vs ds s1 J1 H1 f1 b1 a1 q1 => by
    split at q1
    · rename_i i0 j
      cases a1 with
      | cons a b =>
      obtain ⟨u, rfl, b2⟩ := das_one b
      refine ⟨i0, j, by rw [da_int a, da_int b2], q1.1, k _ _ s1 J1 H1 f1 b1 ⟨fun i G hi _ => ?_, fun G _ => ?_, fun i G x G' d hd' _ y => ?_⟩ q1.2⟩
      · rw [rngD_len] at hi
        exact hi
      · show (j - i0).toNat ≤ _
        rw [rngD_len]; omega
      · obtain ⟨e1, e2⟩ := y
        obtain ⟨e3, _⟩ := rngD_at hd'
        rw [e3, e2]
        exact .inl ⟨e1, .int _⟩
    · exact q1.elim
theorem si_enum (h : SA K er W O t wl) : SI K er W O (iEnum K t) (wiEnum wl) := fun M mo J0 H0 Pr s σ J H f Q e q he R k =>
  h M mo J0 H0 Pr s σ J H f _ e q he _ fun vs ds s1 J1 H1 f1 b1 a1 q1 => by
    split at q1
    · rename_i ds
      obtain ⟨u, rfl, a⟩ := das_one a1
      obtain ⟨p, xs, rfl, hl, hd⟩ := da_lst a
      refine ⟨p, xs, rfl, .of (f1.wf.jh _ _ hl), k _ _ s1 J1 H1 f1 b1 ⟨fun i G hi s => ?_, fun G s => ⟨xs, .of (s _ _ hl), by rw [das_len hd, enumD_len]; exact Nat.le_refl _⟩, fun i G x G' d hd' s y => ?_⟩ q1⟩
      · rw [enumD_len] at hi
        have hi2 : i < xs.length := by rw [das_len hd]; exact hi
        exact ⟨xs, xs[i], .of (s _ _ hl), List.getElem?_eq_getElem hi2⟩
      · obtain ⟨T, z, ev, hT, eG, y⟩ := y
        obtain ⟨d2, e2, a2⟩ := das_at hd (y xs (.of (s _ _ hl)))
        obtain ⟨d3, e3, rfl⟩ := enumD_at hd'
        rw [e2] at e3
        cases e3
        exact .inr ⟨T, _, _, ev, hT, eG, rfl, .cons (.int _) (.cons a2 .nil)⟩
    · exact q1.elim
end
/-! ### for, comprehensions -/
def wFor (ww : WI) (wg : WG) (wb : WS) (s : Sl) (E : EW) : Prop := ww s (fun ds s1 => ∃ I : Nat → Sl → Prop, I 0 s1 ∧ (∀ i d s2, ds[i]? = some d → I i s2 → wg d s2 fun s3 => wb s3 { E with nx := I (i + 1), ct := I (i + 1), bk := E.nx }) ∧ ∀ s2, I ds.length s2 → E.nx s2) E.er
/-- the slots vs are emptied -/
def wipeS (s : Sl) : List Nat → Sl
  | [] => s
  | i :: r => (wipeS s r).set i none
/-- within a comprehension nothing is raised -/
def W0 : WX := fun _ _ _ _ => False
def nE : EK := fun _ _ _ => False
def wLc (ww : WI) (wg : WG) (wt : WT) (we : WE) (vs : List Nat) (s : Sl) (Q : EV → Sl → Prop) (e : EK) : Prop := ww s (fun ds s1 => ds.length < sizeLine ∧ ∃ I : Nat → List PyData → Sl → Prop, I 0 [] (wipeS s1 vs) ∧
  (∀ i d acc s2, ds[i]? = some d → I i acc s2 → wg d (wipeS s2 vs) fun s3 => wt s3 (fun b s4 => if b = true then we s4 (fun r s5 => frz r s5 fun x s6 => I (i + 1) (acc ++ [x]) (wipeS s6 vs)) nE else I (i + 1) acc (wipeS s4 vs)) nE) ∧
  ∀ acc s2, I ds.length acc s2 → Q (.d (.list acc)) (wipeS s2 vs)) e
section
variable {K : PySem.W.Frag} {er : Ers} {W : WX} {O : Md → Prop} {te : TE} {t : TA} {we : WE} {wl : WA} {wi : TI} {ww : WI} {g : TG} {wg : WG} {ts : TS} {ws : WS} {M : Md} {J0 H0 J H : Hp} {Pr : List (Addr × HO)} {s : Sl} {σ : L2.St} {v : V} {tt : TT} {wt : WT} {vs : List Nat}
theorem ss_for (hi : SI K er W O wi ww) (hg : SG K g wg) (h : SS K er W O ts ws) : SS K er W O (tFor wi g ts) (wFor ww wg ws) := fun M mo J0 H0 Pr s σ J H f E D q kk he =>
  hi M mo J0 H0 Pr s σ J H f _ _ q he _ fun A ds s1 J1 H1 f1 b1 wd ⟨I, i0, hs, hd⟩ => by
    refine ⟨fun i m σ' G => m = ds.length - i ∧ i ≤ ds.length ∧ ∃ s' J', Fr K M J0 H0 Pr s' σ' J' G ∧ Sub J1 J' ∧ I i s', ⟨_, rfl, Nat.zero_le _, s1, J1, f1, .refl _, i0⟩, ?_⟩
    rintro i m σ' G ⟨rfl, hi, s', J', f', b', hI⟩
    by_cases hlt : i < ds.length
    · refine .inr ⟨wd.go i G hlt (b'.trans f'.wf.jh), fun σ2 G2 => ∃ s' J', Fr K M J0 H0 Pr s' σ2 J' G2 ∧ Sub J1 J' ∧ I (i + 1) s', fun σ2 G' h' => ⟨_, by omega, rfl, hlt, h'⟩, fun x G' y => ?_⟩
      have hdi : ds[i]? = some ds[i] := List.getElem?_eq_getElem hlt
      have key : ∀ J2 G2, Fr K M J0 H0 Pr s' σ' J2 G2 → Sub J1 J2 → Da K J2 x ds[i] → g x σ' G2 fun σ2 H2 => ts { D with nx := fun σ2 G2 => ∃ s' J', Fr K M J0 H0 Pr s' σ2 J' G2 ∧ Sub J1 J' ∧ I (i + 1) s', ct := fun σ2 G2 => ∃ s' J', Fr K M J0 H0 Pr s' σ2 J' G2 ∧ Sub J1 J' ∧ I (i + 1) s', bk := D.nx } σ2 H2 := by
        intro J2 G2 f2 b2 ax
        exact hg M J0 H0 Pr s' σ' J2 G2 x _ f2 ax _ (hs i _ s' hdi hI) _ fun s3 σ3 f3 q3 => h M mo J0 H0 Pr s3 σ3 J2 G2 f3 _ _ q3
          ⟨fun s4 σ4 J4 H4 f4 b4 i4 => ⟨s4, J4, f4, b2.trans b4, i4⟩, fun v d s4 σ4 J4 H4 f4 b4 => kk.rt v d s4 σ4 J4 H4 f4 ((b1.trans b2).trans b4), fun s4 σ4 J4 H4 f4 b4 => kk.nx s4 σ4 J4 H4 f4 ((b1.trans b2).trans b4), fun s4 σ4 J4 H4 f4 b4 i4 => ⟨s4, J4, f4, b2.trans b4, i4⟩⟩ he
      rcases wd.yld i G x G' _ hdi (b'.trans f'.wf.jh) y with ⟨rfl, ax⟩ | ⟨T, xs, es, rfl, hT, rfl, ed, hes⟩
      · exact key J' G' f' b' (b'.da ax)
      · have tn := f'.wf.new (o := .tup xs) hT
        refine key _ _ (f'.step tn) (b'.trans tn.jj) ?_
        rw [ed]
        exact .tup (.of upd_same) (tn.jj.das (b'.das hes))
    · have e : i = ds.length := by omega
      subst e
      exact .inl ⟨wd.stop G (b'.trans f'.wf.jh), kk.nx _ _ _ _ f' (b1.trans b') (hd s' hI)⟩
theorem Fr.forget (f : Fr K M J0 H0 Pr s σ J H) {i : Nat} : Fr K M J0 H0 Pr (s.set i none) σ J H := by
  have := f.drop (k := i) (σ[i]?.getD none)
  have e : σ.set i (σ[i]?.getD none) = σ := by
    cases q : σ[i]? with
    | none => exact List.set_eq_of_length_le (List.getElem?_eq_none_iff.mp q)
    | some o =>
      obtain ⟨h1, h2⟩ := List.getElem?_eq_some_iff.mp q
      show σ.set i o = σ
      rw [← h2]
      exact List.set_getElem_self h1
  rwa [e] at this
theorem Fr.wiped (f : Fr K M J0 H0 Pr s σ J H) (vs : List Nat) : Fr K M J0 H0 Pr (wipeS s vs) (wipe σ vs) J H := by
  induction vs with
  | nil => exact f
  | cons i r ih => exact ih.drop none
theorem Fr.wipedS (f : Fr K M J0 H0 Pr s σ J H) (vs : List Nat) : Fr K M J0 H0 Pr (wipeS s vs) σ J H := by
  induction vs with
  | nil => exact f
  | cons i r ih => exact ih.forget
/-- a target whose slots are among vs -/
def Tin (vs : List Nat) (g : TG) : Prop := ∀ v σ H Q Q', (∀ σ' H', wipe σ' vs = wipe σ vs → Q σ' H' → Q' σ' H') → g v σ H Q → g v σ H Q'
def Tins (vs : List Nat) (g : TGs) : Prop := ∀ v σ H Q Q', (∀ σ' H', wipe σ' vs = wipe σ vs → Q σ' H' → Q' σ' H') → g v σ H Q → g v σ H Q'
theorem wipe_get (vs : List Nat) (σ : L2.St) (i : Nat) : (wipe σ vs)[i]? = if i ∈ vs then σ[i]?.map fun _ => none else σ[i]? := by
  induction vs with
  | nil => simp [wipe]
  | cons v r ih =>
    unfold wipe
    by_cases h : i = v
    · subst h
      rw [List.getElem?_set_self', ih, if_pos (List.mem_cons_self ..)]
      by_cases h2 : i ∈ r
      · rw [if_pos h2]; cases σ[i]? <;> rfl
      · rw [if_neg h2]; cases σ[i]? <;> rfl
    · rw [List.getElem?_set_ne (Ne.symm h), ih]
      by_cases h2 : i ∈ r
      · rw [if_pos h2, if_pos (List.mem_cons_of_mem _ h2)]
      · rw [if_neg h2, if_neg (by intro z; rcases List.mem_cons.mp z with z | z; exact h z; exact h2 z)]
theorem wipe_set {vs : List Nat} {k : Nat} (hk : k ∈ vs) (σ : L2.St) (o : Option V) : wipe (σ.set k o) vs = wipe σ vs := by
  apply List.ext_getElem?
  intro i
  rw [wipe_get, wipe_get]
  by_cases h : i = k
  · subst h
    rw [if_pos hk, if_pos hk, List.getElem?_set_self']
    cases σ[i]? <;> rfl
  · rw [List.getElem?_set_ne (Ne.symm h)]
theorem wipe_wipe (vs : List Nat) (σ : L2.St) : wipe (wipe σ vs) vs = wipe σ vs := by
  apply List.ext_getElem?
  intro i
  rw [wipe_get, wipe_get]
  by_cases h : i ∈ vs
  · rw [if_pos h, if_pos h]; cases σ[i]? <;> rfl
  · rw [if_neg h, if_neg h]
theorem tin_name {k : Nat} (hk : k ∈ vs) : Tin vs (gName k) := fun v σ H Q Q' h q => h _ _ (wipe_set hk σ _) q
theorem tins_nil : Tins vs gNil := fun v σ H Q Q' h ⟨e, q⟩ => ⟨e, h _ _ rfl q⟩
theorem tins_cons {gs : TGs} (h : Tin vs g) (h2 : Tins vs gs) : Tins vs (gCons g gs) := fun v σ H Q Q' hq ⟨x, r, e, q⟩ => ⟨x, r, e, h _ _ _ _ _ (fun σ1 H1 e1 q1 => h2 _ _ _ _ _ (fun σ2 H2 e2 q2 => hq σ2 H2 (e2.trans e1) q2) q1) q⟩
theorem tin_tup {gs : TGs} {n : Nat} (h : Tins vs gs) : Tin vs (gTup K n gs) := fun v σ H Q Q' hq ⟨a, xs, e1, e2, e3, q⟩ => ⟨a, xs, e1, e2, e3, h _ _ _ _ _ hq q⟩
theorem wipeS_get (vs : List Nat) (s : Sl) (i : Nat) : (wipeS s vs)[i]? = if i ∈ vs then s[i]?.map fun _ => none else s[i]? := by
  induction vs with
  | nil => simp [wipeS]
  | cons v r ih =>
    unfold wipeS
    by_cases h : i = v
    · subst h
      rw [List.getElem?_set_self', ih, if_pos (List.mem_cons_self ..)]
      by_cases h2 : i ∈ r
      · rw [if_pos h2]; cases s[i]? <;> rfl
      · rw [if_neg h2]; cases s[i]? <;> rfl
    · rw [List.getElem?_set_ne (Ne.symm h), ih]
      by_cases h2 : i ∈ r
      · rw [if_pos h2, if_pos (List.mem_cons_of_mem _ h2)]
      · rw [if_neg h2, if_neg (by intro z; rcases List.mem_cons.mp z with z | z; exact h z; exact h2 z)]
theorem wipeS_wipe (vs : List Nat) (s : Sl) : wipeS (wipeS s vs) vs = wipeS s vs := by
  apply List.ext_getElem?
  intro i
  rw [wipeS_get, wipeS_get]
  by_cases h : i ∈ vs
  · rw [if_pos h, if_pos h]; cases s[i]? <;> rfl
  · rw [if_neg h, if_neg h]
theorem Fr.unwipe {s4 : Sl} {σ2 : L2.St} (f4 : Fr K M J0 H0 Pr s4 σ2 J H) (e2 : wipe σ2 vs = wipe σ vs) : Fr K M J0 H0 Pr (wipeS s4 vs) σ J H := by
  have h2 := f4.wiped vs
  rw [e2] at h2
  refine ⟨h2.w0, h2.tr, ?_, fun k x e => ?_, fun k j xs ys p e1 e2 e3 e4 => ?_, fun q hq => ?_, h2.pn⟩
  · rw [← wipe_length σ vs]; exact h2.len
  · obtain ⟨v, hv, h⟩ := h2.at_ k x e
    exact ⟨v, (wipe_some hv).1, h⟩
  · obtain ⟨v, hv, _⟩ := h2.at_ k _ e1
    obtain ⟨w, hw, _⟩ := h2.at_ j _ e2
    have e3' := (wipe_some hv).1.symm.trans e3
    have e4' := (wipe_some hw).1.symm.trans e4
    cases e3'
    cases e4'
    exact h2.sep k j xs ys p e1 e2 hv hw
  · obtain ⟨g1, g2, g3, g4, g5⟩ := h2.prt q hq
    refine ⟨g1, g2, g3, g4, fun k xs e z => ?_⟩
    obtain ⟨v, hv, _⟩ := h2.at_ k _ e
    have e' := (wipe_some hv).1.symm.trans z
    cases e'
    exact g5 k xs e hv
/-- the turns of a comprehension: fin says what comes of the list at its end -/
theorem lc_run {Qd : Addr → Hp → Prop} {A : L2.It} {ds : List PyData} {s1 : Sl} {J1 H1 : Hp} {I : Nat → List PyData → Sl → Prop} {D : Addr} (mo : O M) (hg : SG K g wg) (tin : Tin vs g) (hc : ST K er W0 O tt wt) (he : SE K er W0 O te we) (f1 : Fr K M J0 H0 Pr s1 σ J1 H1) (hD : H1 D = none)
    (wd : WalkD K A J1 ds) (hz : ds.length < sizeLine) (i0 : I 0 [] (wipeS s1 vs)) (hs : ∀ i d acc s2, ds[i]? = some d → I i acc s2 → wg d (wipeS s2 vs) fun s3 => wt s3 (fun b s4 => if b = true then we s4 (fun r s5 => frz r s5 fun x s6 => I (i + 1) (acc ++ [x]) (wipeS s6 vs)) nE else I (i + 1) acc (wipeS s4 vs)) nE)
    (fin : ∀ s2 J2 H2 acc ys, Fr K M J0 H0 ((D, .lst ys) :: Pr) (wipeS s2 vs) σ J2 H2 → Sub J1 J2 → Das K J2 ys acc → I ds.length acc s2 → Qd D H2) :
    ∃ W : Nat → Nat → Hp → Prop, (∃ m, W 0 m (upd H1 D (.lst []))) ∧ ∀ i m H, W i m H →
      (A.stop i H ∧ Qd D H) ∨ (A.go i H ∧ ∃ Nx : Hp → Prop, (∀ H', Nx H' → ∃ m', m' < m ∧ W (i + 1) m' H') ∧ ∀ x H', A.yld i H x H' → g x (wipe σ vs) H' fun σ2 H2 => wipe σ2 vs = wipe σ vs ∧ tt σ2 H2 fun b H3 =>
        if b = true then te σ2 H3 fun y H4 => ∃ acc, H4 D = some (.lst acc) ∧ acc.length < sizeLine ∧ Nx (upd H4 D (.lst (acc ++ [y]))) else Nx H3) := by
  let St : Nat → Hp → Prop := fun i G => ∃ s' J' acc ys, Fr K M J0 H0 ((D, .lst ys) :: Pr) (wipeS s' vs) σ J' G ∧ Sub J1 J' ∧ Das K J' ys acc ∧ ys.length ≤ i ∧ I i acc s'
  refine ⟨fun i m G => m = ds.length - i ∧ i ≤ ds.length ∧ St i G, ⟨_, rfl, Nat.zero_le _, wipeS s1 vs, J1, [], [], ((f1.prot hD).wipedS vs).wipedS vs, .refl _, .nil, Nat.le_refl _, i0⟩, ?_⟩
  rintro i m G ⟨rfl, hi, s', J', acc, ys, f', b', ha, hl, hI⟩
  by_cases hlt : i < ds.length
  · refine .inr ⟨wd.go i G hlt (b'.trans f'.wf.jh), St (i + 1), fun G' h' => ⟨_, by omega, rfl, hlt, h'⟩, fun x G' y => ?_⟩
    have hdi : ds[i]? = some ds[i] := List.getElem?_eq_getElem hlt
    have key : ∀ J3 G3, Fr K M J0 H0 ((D, .lst ys) :: Pr) (wipeS s' vs) σ J3 G3 → Sub J1 J3 → Das K J3 ys acc → Da K J3 x ds[i] → g x (wipe σ vs) G3 fun σ2 H2 => wipe σ2 vs = wipe σ vs ∧ tt σ2 H2 fun b H3 =>
        if b = true then te σ2 H3 fun y H4 => ∃ acc, H4 D = some (.lst acc) ∧ acc.length < sizeLine ∧ St (i + 1) (upd H4 D (.lst (acc ++ [y]))) else St (i + 1) H3 := by
      intro J3 G3 f3 b3 a3 ax
      have fw := f3.wiped vs
      rw [wipeS_wipe] at fw
      have he2 : ErO K er W0 M J0 H0 ((D, .lst ys) :: Pr) nE := fun c x s σ dx v J H f z => z.elim
      refine tin _ _ _ (fun σ2 H2 => wipe σ2 vs = wipe σ vs → tt σ2 H2 fun b H3 =>
        if b = true then te σ2 H3 fun y H4 => ∃ acc, H4 D = some (.lst acc) ∧ acc.length < sizeLine ∧ St (i + 1) (upd H4 D (.lst (acc ++ [y]))) else St (i + 1) H3) _ (fun σ2 H2 e2 q2 => ⟨by rw [e2, wipe_wipe], q2 (by rw [e2, wipe_wipe])⟩)
        (hg M J0 H0 _ _ _ J3 G3 x _ fw ax _ (hs i _ acc s' hdi hI) _ fun s3 σ3 f4 q4 e3 => ?_)
      refine hc M mo J0 H0 _ s3 σ3 J3 G3 f4 _ nE q4 he2 _ fun b s4 J4 G4 f5 b5 q5 => ?_
      cases b with
      | false => exact ⟨wipeS s4 vs, J4, acc, ys, by rw [wipeS_wipe]; exact f5.unwipe e3, b3.trans b5, b5.das a3, Nat.le_succ_of_le hl, q5⟩
      | true =>
        refine he M mo J0 H0 _ s4 σ3 J4 G4 f5 _ nE q5 he2 _ fun y r s5 J5 G5 f6 b6 vr q6 => ?_
        obtain ⟨d, s6, J6, q7, b7, ad, f7⟩ := frz_use f6 vr q6
        have bb := (b5.trans b6).trans b7
        obtain ⟨g1, _⟩ := f7.prt _ (List.mem_cons_self ..)
        exact ⟨ys, g1, by omega, wipeS s6 vs, J6, acc ++ [d], ys ++ [y], by rw [wipeS_wipe]; exact f7.reprot.unwipe e3, b3.trans bb, das_app (bb.das a3) (.cons ad .nil), by rw [List.length_append]; simp only [List.length_cons, List.length_nil]; omega, q7⟩
    rcases wd.yld i G x G' _ hdi (b'.trans f'.wf.jh) y with ⟨rfl, ax⟩ | ⟨T, xs, es, rfl, hT, rfl, ed, hes⟩
    · exact key J' G' f' b' ha (b'.da ax)
    · have tn := f'.wf.new (o := .tup xs) hT
      refine key _ _ (f'.step tn) (b'.trans tn.jj) (tn.jj.das ha) ?_
      rw [ed]
      exact .tup (.of upd_same) (tn.jj.das (b'.das hes))
  · have e : i = ds.length := by omega
    subst e
    exact .inl ⟨wd.stop G (b'.trans f'.wf.jh), fin s' J' G acc ys f' b' ha hI⟩
theorem se_lc (hi : SI K er W O wi ww) (hg : SG K g wg) (tin : Tin vs g) (hc : ST K er W0 O tt wt) (he : SE K er W0 O te we) : SE K er W O (tLc wi g tt te vs) (wLc ww wg wt we vs) := fun M mo J0 H0 Pr s σ J H f Q e q he' Qv kk =>
  hi M mo J0 H0 Pr s σ J H f _ _ q he' _ fun A ds s1 J1 H1 f1 b1 wd ⟨hz, I, i0, hs, hd⟩ => fun D hD =>
    lc_run (Qd := fun D H => Qv (.ref D) H) mo hg tin hc he f1 hD wd hz i0 hs fun s2 J2 H2 acc ys f2 b2 a2 i2 => by
      obtain ⟨J3, b3, a3, f3⟩ := f2.tell a2
      exact kk _ (.d (.list acc)) _ J3 H2 f3 ((b1.trans b2).trans b3) a3 (hd acc s2 i2)
/-- x = [..], a list of one's own made by a comprehension -/
def wNewLc (k : Nat) (ww : WI) (wg : WG) (wt : WT) (we : WE) (vs : List Nat) (s : Sl) (E : EW) : Prop := ww s (fun ds s1 => ds.length < sizeLine ∧ ∃ I : Nat → List PyData → Sl → Prop, I 0 [] (wipeS s1 vs) ∧
  (∀ i d acc s2, ds[i]? = some d → I i acc s2 → wg d (wipeS s2 vs) fun s3 => wt s3 (fun b s4 => if b = true then we s4 (fun r s5 => frz r s5 fun x s6 => I (i + 1) (acc ++ [x]) (wipeS s6 vs)) nE else I (i + 1) acc (wipeS s4 vs)) nE) ∧
  ∀ acc s2, I ds.length acc s2 → E.nx ((wipeS s2 vs).set k (some (.own acc)))) E.er
theorem ss_newLc {k : Nat} (hi : SI K er W O wi ww) (hg : SG K g wg) (tin : Tin vs g) (hc : ST K er W0 O tt wt) (he : SE K er W0 O te we) : SS K er W O (tAsg (tLc wi g tt te vs) (gName k)) (wNewLc k ww wg wt we vs) := fun M mo J0 H0 Pr s σ J H f E Dn q kk he' =>
  hi M mo J0 H0 Pr s σ J H f _ _ q he' _ fun A ds s1 J1 H1 f1 b1 wd ⟨hz, I, i0, hs, hd⟩ => fun p hD =>
    lc_run (Qd := fun p H => gName k (.ref p) σ H Dn.nx) mo hg tin hc he f1 hD wd hz i0 hs fun s2 J2 H2 acc ys f2 b2 a2 i2 => kk.nx _ _ _ _ (f2.give a2) (b1.trans b2) (hd acc s2 i2)
end
end DW

/-! Defs, told in data; what is called. -/
namespace DW
open PySem PySem.Spec
open PyProof.Rows L2 DL
/-- an argument -/
inductive AV where
  | d (x : PyData) | drw
def Av (K : PySem.W.Frag) (M : Md) (J : Hp) (v : V) : AV → Prop
  | .d x => Da K J v x
  | .drw => ∃ h g, v = .ref h ∧ HasDr M h g
inductive Avs (K : PySem.W.Frag) (M : Md) (J : Hp) : List V → List AV → Prop
  | nil : Avs K M J [] []
  | cons {v : V} {a : AV} {vs : List V} {as : List AV} : Av K M J v a → Avs K M J vs as → Avs K M J (v :: vs) (a :: as)
section
variable {K : PySem.W.Frag} {M : Md} {J J' : Hp}
theorem Av.sub {v : V} {a : AV} (s : Sub J J') (h : Av K M J v a) : Av K M J' v a := by
  cases a with
  | d x => exact s.da h
  | drw => exact h
theorem Avs.sub (s : Sub J J') {vs : List V} {as : List AV} (h : Avs K M J vs as) : Avs K M J' vs as := by
  induction h with
  | nil => exact .nil
  | cons a _ ih => exact .cons (a.sub s) ih
theorem avs_len {vs : List V} {as : List AV} (h : Avs K M J vs as) : vs.length = as.length := by
  induction h with
  | nil => rfl
  | cons _ _ ih => rw [List.length_cons, List.length_cons, ih]
theorem avs_app {vs us : List V} {as bs : List AV} (h : Avs K M J vs as) (g : Avs K M J us bs) : Avs K M J (vs ++ us) (as ++ bs) := by
  induction h with
  | nil => exact g
  | cons a _ ih => exact .cons a ih
theorem avs_get {vs : List V} {as : List AV} (h : Avs K M J vs as) (i : Nat) : (vs[i]? = none ∧ as[i]? = none) ∨ ∃ v a, vs[i]? = some v ∧ as[i]? = some a ∧ Av K M J v a := by
  induction h generalizing i with
  | nil => exact .inl ⟨rfl, rfl⟩
  | cons a _ ih =>
    cases i with
    | zero => exact .inr ⟨_, _, rfl, rfl, a⟩
    | succ i => simpa using ih i
/-- some of a list, by their places -/
def pick {α : Type} (π : List Nat) (l : List α) : List α := π.filterMap fun i => l[i]?
theorem avs_pick {vs : List V} {as : List AV} (h : Avs K M J vs as) (π : List Nat) : Avs K M J (pick π vs) (pick π as) := by
  induction π with
  | nil => exact .nil
  | cons i π ih =>
    unfold pick at ih ⊢
    rcases avs_get h i with ⟨e1, e2⟩ | ⟨v, a, e1, e2, r⟩
    · rw [List.filterMap_cons_none e1, List.filterMap_cons_none e2]; exact ih
    · rw [List.filterMap_cons_some e1, List.filterMap_cons_some e2]; exact .cons r ih
theorem vals_pick {vs : List V} {us : List Value} (h : Vals vs us) (π : List Nat) : Vals (pick π vs) (pick π us) := by
  induction π with
  | nil => exact .nil
  | cons i π ih =>
    unfold pick at ih ⊢
    cases q : vs[i]? with
    | none => rw [List.filterMap_cons_none q, List.filterMap_cons_none (h.none_of q)]; exact ih
    | some v =>
      obtain ⟨u, e, r⟩ := h.get q
      rw [List.filterMap_cons_some q, List.filterMap_cons_some e]; exact .cons r ih
end
/-- what a def promises -/
def spU (K : PySem.W.Frag) (er : Ers) (O : Md → Prop) (pre : List AV → Prop) (post : List AV → PyData → Prop) (exc : List AV → Str → PyData → Prop) : Sp := fun vs H Q E => ∃ M J as, O M ∧ Wf M J H ∧ Avs K M J vs as ∧ pre as ∧
  (∀ v d J' H', Tr M J H J' H' → post as d → Da K J' v d → Q v H') ∧ ∀ c x dx v J' H', Tr M J H J' H' → exc as c x → H' dx = some (.xd [(er.fl c, v)]) → Da K J' v x → E (.ref (er.cl c)) (some dx) H'
def noE : List AV → Str → PyData → Prop := fun _ _ _ => False
def anyM : Md → Prop := fun _ => True
/-! ### arguments -/
abbrev WU := Sl → (List AV → Sl → Prop) → EK → Prop
def SU (K : PySem.W.Frag) (er : Ers) (W : WX) (O : Md → Prop) (ta : TA) (wu : WU) : Prop := ∀ M, O M → ∀ J0 H0 Pr s σ J H, Fr K M J0 H0 Pr s σ J H → ∀ Q e, wu s Q e → ErO K er W M J0 H0 Pr e →
  ∀ Qa : List V → Hp → Prop, (∀ vs as s' J' H', Fr K M J0 H0 Pr s' σ J' H' → Sub J J' → Avs K M J' vs as → Q as s' → Qa vs H') → ta σ H Qa
def avf (r : EV) (s : Sl) (k : AV → Sl → Prop) : Prop := match r with
  | .d x => k (.d x) s
  | .at i => match s[i]? with
    | some (some (.own xs)) => k (.d (.list xs)) (s.set i (some (.d (.list xs))))
    | some (some .drw) => k .drw s
    | _ => False
  | .raw _ => False
def wuNil (s : Sl) (Q : List AV → Sl → Prop) (_ : EK) : Prop := Q [] s
def wuCons (wa : WE) (wr : WU) (s : Sl) (Q : List AV → Sl → Prop) (e : EK) : Prop := wa s (fun a s1 => avf a s1 fun x s2 => wr s2 (fun xs s3 => Q (x :: xs) s3) e) e
def wCall (pre : List AV → Prop) (post : List AV → PyData → Prop) (exc : List AV → Str → PyData → Prop) (wu : WU) (s : Sl) (Q : EV → Sl → Prop) (e : EK) : Prop :=
  wu s (fun as s1 => pre as ∧ (∀ d, post as d → Q (.d d) s1) ∧ ∀ c x, exc as c x → e c x s1) e
def wCallK (pre : List AV → Prop) (post : List AV → PyData → Prop) (exc : List AV → Str → PyData → Prop) (π : List Nat) (n m : Nat) (wu wk : WU) (s : Sl) (Q : EV → Sl → Prop) (e : EK) : Prop :=
  wu s (fun as s1 => wk s1 (fun bs s2 => as.length = n ∧ bs.length = m ∧ pre (pick π (as ++ bs)) ∧ (∀ d, post (pick π (as ++ bs)) d → Q (.d d) s2) ∧ ∀ c x, exc (pick π (as ++ bs)) c x → e c x s2) e) e
def tCallW (sp : Sp) (π : List Nat) (n m : Nat) (E : L2.St → XK) (t tk : TA) : TE := fun σ H Q => t σ H fun vs H1 => tk σ H1 fun zs H2 => vs.length = n ∧ zs.length = m ∧ sp (pick π (vs ++ zs)) H2 Q (E σ)
section
variable {K : PySem.W.Frag} {er : Ers} {W : WX} {O O' : Md → Prop} {ta te : TE} {t tk : TA} {wa : WE} {wu wk : WU} {M : Md} {J0 H0 J H : Hp} {Pr : List (Addr × HO)} {s : Sl} {σ : L2.St} {v : V} {r : EV} {pre : List AV → Prop} {post : List AV → PyData → Prop} {exc : List AV → Str → PyData → Prop}
theorem avf_use {k : AV → Sl → Prop} (f : Fr K M J0 H0 Pr s σ J H) (h : Ve K J σ v r) (q : avf r s k) : ∃ a s' J', k a s' ∧ Sub J J' ∧ Av K M J' v a ∧ Fr K M J0 H0 Pr s' σ J' H := by
  cases r with
  | d x => exact ⟨.d x, s, J, q, .refl _, h, f⟩
  | «at» i =>
    unfold avf at q
    dsimp only at q
    split at q
    · rename_i xs e
      obtain ⟨J', u, hu, sb, a, f'⟩ := f.ice e
      rw [show σ[i]? = some (some v) from h] at hu
      cases hu
      exact ⟨.d _, _, J', q, sb, a, f'⟩
    · rename_i e
      obtain ⟨u, hu, a⟩ := f.at_ i _ e
      rw [show σ[i]? = some (some v) from h] at hu
      cases hu
      exact ⟨.drw, s, J, q, .refl _, a, f⟩
    · exact q.elim
  | raw u => exact q.elim
theorem su_nil : SU K er W O tNil wuNil := fun M mo J0 H0 Pr s σ J H f Q e q he Qa k => k [] [] s J H f (.refl _) .nil q
theorem su_cons (ha : SE K er W O ta wa) (hr : SU K er W O t wu) : SU K er W O (tCons ta t) (wuCons wa wu) := fun M mo J0 H0 Pr s σ J H f Q e q he Qa k =>
  ha M mo J0 H0 Pr s σ J H f _ e q he _ fun x a s1 J1 H1 f1 b1 va q1 => by
    obtain ⟨dx, s2, J2, q2, b2, ax, f2⟩ := avf_use f1 va q1
    exact hr M mo J0 H0 Pr s2 σ J2 H1 f2 _ e q2 he _ fun vs ds s3 J3 H3 f3 b3 a3 q3 => k _ _ s3 J3 H3 f3 ((b1.trans b2).trans b3) (.cons (ax.sub b3) a3) q3
theorem sp_use {vs : List V} {as : List AV} {Q : EV → Sl → Prop} {e : EK} {Qv : VK} (hO : ∀ M, O M → O' M) (mo : O M) (he : ErO K er W M J0 H0 Pr e) (f : Fr K M J0 H0 Pr s σ J H) (a : Avs K M J vs as) (hp : pre as) (h1 : ∀ d, post as d → Q (.d d) s) (h2 : ∀ c x, exc as c x → e c x s)
    (k : ∀ v r s' J' H', Fr K M J0 H0 Pr s' σ J' H' → Sub J J' → Ve K J' σ v r → Q r s' → Qv v H') : spU K er O' pre post exc vs H Qv (L2.WE W σ) :=
  ⟨M, J, as, hO M mo, f.wf, a, hp, fun v d J' H' t p a' => k v (.d d) s J' H' (f.step t) t.jj a' (h1 d p), fun c x dx v J' H' t z hx a' => he c x s σ dx v J' H' (f.step t) (h2 c x z) hx a'⟩
theorem se_call (hO : ∀ M, O M → O' M) (h : SU K er W O t wu) : SE K er W O (tCallS (spU K er O' pre post exc) (L2.WE W) t) (wCall pre post exc wu) := fun M mo J0 H0 Pr s σ J H f Q e q he Qv k =>
  h M mo J0 H0 Pr s σ J H f _ e q he _ fun vs as s1 J1 H1 f1 b1 a1 ⟨hp, h1, h2⟩ => sp_use hO mo he f1 a1 hp h1 h2 fun v r s' J' H' f' b' => k v r s' J' H' f' (b1.trans b')
theorem se_callK {π : List Nat} {n m : Nat} (hO : ∀ M, O M → O' M) (h : SU K er W O t wu) (h' : SU K er W O tk wk) :
    SE K er W O (tCallW (spU K er O' pre post exc) π n m (L2.WE W) t tk) (wCallK pre post exc π n m wu wk) := fun M mo J0 H0 Pr s σ J H f Q e q he Qv k =>
  h M mo J0 H0 Pr s σ J H f _ e q he _ fun vs as s1 J1 H1 f1 b1 a1 q1 => h' M mo J0 H0 Pr s1 σ J1 H1 f1 _ e q1 he _ fun zs bs s2 J2 H2 f2 b2 a2 ⟨l1, l2, hp, h1, h2⟩ =>
    ⟨(avs_len a1).trans l1, (avs_len a2).trans l2, sp_use hO mo he f2 (avs_pick (avs_app (a1.sub b2) a2) π) hp h1 h2 fun v r s' J' H' f' b' => k v r s' J' H' f' ((b1.trans b2).trans b')⟩
end
/-! ### the judgements: the reading, and what it is in data -/
structure Ca5 (P : Program) (w : World) (K : PySem.W.Frag) (mg : Str → Option Value) (base : Heap) (CX : CXT) (k : Nat) (x : Str) (ps : List Str) (sp : Sp) : Prop where
  has : ∃ f fd, FnG P w K mg base CX k f fd ps sp ∧ mg x = some (.ref f) ∧ PySem.W.keepIn K (.ref f) = true ∧ Binds K fd ps []
structure CaN (P : Program) (w : World) (K : PySem.W.Frag) (mg : Str → Option Value) (base : Heap) (CX : CXT) (k : Nat) (x : Str) (ps : List Str) (n : Nat) (ks : List Str) (π : List Nat) (sp : Sp) : Prop where
  has : ∃ f fd, FnG P w K mg base CX k f fd ps sp ∧ mg x = some (.ref f) ∧ PySem.W.keepIn K (.ref f) = true ∧ KBn K fd ps n ks (fun us ws => pick π (us ++ ws)) (fun vs zs => pick π (vs ++ zs))
section
variable {X : Cx} {CX : CXT} {k n : Nat} {f : Addr} {fd : FuncData} {ps ks : List Str} {sp : Sp} {E : L2.St → XK} {x : Str} {p pos : Pos} {e : Expr} {es : List Expr} {t tk : TA} {kws : List Keyword} {π : List Nat}
theorem go_w {pins : List (Addr × Obj)} {σ : L2.St} {H : Hp} {s : Shared} {Q : VK} {ar : Args} {us : List Value} {vs : List V} (F : FnG X.prog X.w X.K X.mg X.base CX k f fd ps sp) (hg : X.A.guards = some []) (hr : Room k X.A) (hx : PassesAt CX X σ (E σ)) (I : Inv X pins σ H s)
    (hb : BindsTo s fd ar (ps.zip us)) (r : Vals vs us) (h : sp vs H Q (E σ)) : wpAny (model X.prog X.w) X.A (PySem.call (.ref f) ar.pos ar.kw) (EP X pins σ Q) X.xe s := by
  refine wpAny_call (codeAny_mono (F.go X.A X.stack s H ar us vs Q (E σ) hg hr I.env0 hb r h) fun r s' hq => ?_)
  cases r with
  | error e => exact hx pins H s e s' I hq
  | ok fl =>
    cases fl with
    | ret u => exact I.after hq
    | next => exact False.elim hq
    | brk => exact False.elim hq
    | cont => exact False.elim hq
theorem pe_callW (C : Ca5 X.prog X.w X.K X.mg X.base CX k x ps sp) (hA : X.A.guards = some []) (hr : Room k X.A) (hx : ∀ σ, PassesAt CX X σ (E σ)) (ha : PA X (e :: es) t) (hg : Gl X x := by rfl) (hdb : (x == ("__debug__" : Str)) = false := by decide)
    (he : starEach (e :: es) X.env = (false, eval e X.env) :: starEach es X.env := by rfl) (hpl : (backTo pos (starEach es X.env)).any (·.1) = false := by rfl) : PE X (.Call (.Name x p) (e :: es) [] pos) (tCallS sp E t) := by
  obtain ⟨f, fd, F, hm, hk, hb⟩ := C.has
  refine ⟨fun pins s σ H Q I h => wpAny_Call_Name_kw (ld_glob I hg hm ?_ hdb)⟩
  refine PySem.W.callWith_K (h₀ := X.base) I.ok.mod.kin hk (thn (ha.run pos pins s σ H _ I h) fun us s1 ⟨vs, H1, I1, r, q⟩ => ⟨I1.kIn, ?_⟩) he hpl
  have b := hb s1 us I1.kIn (by rw [List.append_nil]; exact r.length.symm.trans (F.siz _ _ _ _ q))
  rw [List.append_nil] at b
  exact go_w (ar := ⟨us, []⟩) F hA hr (hx σ) I1 b r q
theorem pe_callWK (C : CaN X.prog X.w X.K X.mg X.base CX k x ps n ks π sp) (hA : X.A.guards = some []) (hr : Room k X.A) (hx : ∀ σ, PassesAt CX X σ (E σ)) (ha : PA X (e :: es) t) (hkw : PK X kws tk) (hg : Gl X x := by rfl) (hdb : (x == ("__debug__" : Str)) = false := by decide)
    (hall : (backToKw pos (keywordEach kws X.env)).all (·.1.isSome) = true := by rfl) (hks : (backToKw pos (keywordEach kws X.env)).filterMap (·.1) = ks := by rfl) (he : starEach (e :: es) X.env = (false, eval e X.env) :: starEach es X.env := by rfl)
    (hpl : ((backTo pos (starEach (e :: es) X.env)).any (·.1) || (backToKw pos (keywordEach kws X.env)).any (·.1.isNone)) = false := by rfl) : PE X (.Call (.Name x p) (e :: es) kws pos) (tCallW sp π n ks.length E t tk) := by
  obtain ⟨f, fd, F, hm, hk, hb⟩ := C.has
  refine ⟨fun pins s σ H Q I h => wpAny_Call_Name_kw (ld_glob I hg hm ?_ hdb)⟩
  refine PySem.W.callWith_KW (h₀ := X.base) I.ok.mod.kin hk hall (thn (ha.run pos pins s σ H _ I h) fun us s1 ⟨vs, H1, I1, rv, named⟩ => thn (hkw.run pos pins s1 σ H1 _ I1 named) fun ws s2 ⟨zs, H2, I2, rz, l1, l2, told⟩ => ⟨I2.kIn, ?_⟩) hpl he
  rw [hks]
  exact go_w (ar := ⟨us, ks.zip ws⟩) F hA hr (hx σ) I2 (hb.to s2 us ws I2.kIn (rv.length.symm.trans l1) (rz.length.symm.trans l2)) (hb.rel rv rz) told
theorem pe_callW0 (C : CaN X.prog X.w X.K X.mg X.base CX k x ps 0 ks π sp) (hA : X.A.guards = some []) (hr : Room k X.A) (hx : ∀ σ, PassesAt CX X σ (E σ)) (hkw : PK X kws tk) (hg : Gl X x := by rfl) (hdb : (x == ("__debug__" : Str)) = false := by decide)
    (hall : (backToKw pos (keywordEach kws X.env)).all (·.1.isSome) = true := by rfl) (hks : (backToKw pos (keywordEach kws X.env)).filterMap (·.1) = ks := by rfl)
    (hpl : ((backTo pos (starEach [] X.env)).any (·.1) || (backToKw pos (keywordEach kws X.env)).any (·.1.isNone)) = false := by rfl) : PE X (.Call (.Name x p) [] kws pos) (tCallW sp π 0 ks.length E tNil tk) := by
  obtain ⟨f, fd, F, hm, hk, hb⟩ := C.has
  refine ⟨fun pins s σ H Q I h => wpAny_Call_Name_kw (ld_glob I hg hm ?_ hdb)⟩
  refine PySem.W.callWith_KW0 (h₀ := X.base) I.ok.mod.kin hk hall (thn (hkw.run pos pins s σ H _ I h) fun ws s2 ⟨zs, H2, I2, rz, l1, l2, told⟩ => ⟨I2.kIn, ?_⟩) hpl
  rw [hks]
  exact go_w (ar := ⟨[], ks.zip ws⟩) F hA hr (hx σ) I2 (hb.to s2 [] ws I2.kIn rfl (rz.length.symm.trans l2)) (hb.rel .nil rz) told
end
/-! ### a def -/
def AV.sv : AV → SV
  | .d x => .d x
  | .drw => .drw
/-- the slots at a def's start -/
def startS (n : Nat) (as : List AV) : Sl := as.map (fun a => some a.sv) ++ List.replicate (n - as.length) none
section
variable {K : PySem.W.Frag} {M : Md} {J H : Hp} {er : Ers} {O : Md → Prop} {pre : List AV → Prop} {post : List AV → PyData → Prop} {exc : List AV → Str → PyData → Prop}
theorem fr_start {N : List Str} {vs : List V} {as : List AV} (w : Wf M J H) (a : Avs K M J vs as) (hl : as.length ≤ N.length) (e : start N vs = vs.map some ++ List.replicate (N.length - vs.length) none) : Fr K M J H [] (startS N.length as) (start N vs) J H := by
  have le := avs_len a
  have key : ∀ (i : Nat) (x : SV), (startS N.length as)[i]? = some (some x) → ∃ v b, vs[i]? = some v ∧ as[i]? = some b ∧ x = b.sv ∧ (start N vs)[i]? = some (some v) ∧ Av K M J v b := fun i x h => by
    unfold startS at h
    by_cases hi : i < as.length
    · rw [List.getElem?_append_left (by simpa using hi), List.getElem?_map] at h
      rcases avs_get a i with ⟨_, e2⟩ | ⟨v, b, e1, e2, r⟩
      · rw [e2] at h; cases h
      · rw [e2] at h
        refine ⟨v, b, e1, e2, (Option.some.inj (Option.some.inj h)).symm, ?_, r⟩
        rw [e, List.getElem?_append_left (by simp; omega), List.getElem?_map, e1]
        rfl
    · rw [List.getElem?_append_right (by simp; omega), List.getElem?_replicate] at h
      split at h <;> cases h
  refine ⟨w, w.tr, ?_, fun i x h => ?_, fun i j xs ys p h => ?_, nofun, List.nodup_nil⟩
  · rw [e]
    unfold startS
    simp; omega
  · obtain ⟨v, b, e1, e2, rfl, e3, r⟩ := key i x h
    refine ⟨v, e3, ?_⟩
    cases b with
    | d x => exact r
    | drw => exact r
  · obtain ⟨v, b, _, _, z, _⟩ := key i _ h
    cases b <;> cases z
end
section
variable {P : Program} {w : World} {K : PySem.W.Frag} {mg : Str → Option Value} {base : Heap} {CX : CXT} {k : Nat} {f : Addr} {fd : FuncData} {ps : List Str} {x qual : Str} {params : Arguments} {body : List Stmt} {scope : Scope} {N : List Str} {er : Ers} {O : Md → Prop} {pre : List AV → Prop} {post : List AV → PyData → Prop} {exc : List AV → Str → PyData → Prop} {ws : WS}
/-- a def by what it is in data -/
theorem fn_w (F : FunD K x qual params body scope [] [] f fd) (S : FnScope N ps scope) (hl : ∀ as, pre as → as.length = ps.length) (hN : ps.length ≤ N.length)
    (der : ∀ (cdv : Value) (A : Around) (out : List Env) (s : Shared) (H : Hp) (E : XK), A.guards = some [] → Room k (A.deeper (envOfC qual scope s.heap.objs.size f cdv)) → ∃ t, PSs (cxOf CX P w K mg base N qual scope f cdv A out s H E) body t ∧ SS K er (fun c d _ H => E c d H) O t ws)
    (go : ∀ as, pre as → ws (startS N.length as) { nx := fun _ => post as .none, rt := fun d _ => post as d, bk := fun _ => False, ct := fun _ => False, er := fun c x _ => exc as c x }) : FnG P w K mg base CX (k + 1) f fd ps (spU K er O pre post exc) := by
  refine fn_g F S (fun vs H Q E h => ?_) fun cdv A out s H vs Q E hG hr h => ?_
  · obtain ⟨M, J, as, _, _, a, hp, _⟩ := h
    rw [avs_len a]; exact hl as hp
  · obtain ⟨M, J, as, mo, wf, a, hp, q, qe⟩ := h
    obtain ⟨t, ht, hs⟩ := der cdv A out s H E hG hr
    refine ⟨t, ht, ?_⟩
    have la := hl as hp
    have f0 := fr_start (N := N) wf a (by omega) rfl
    exact hs M mo J H [] _ _ J H f0 _ _ (go as hp) ⟨fun s' σ' J' H' f' _ z => q _ _ _ _ f'.tr z .non, fun v d s' σ' J' H' f' _ z a' => q v d _ _ f'.tr z a', fun _ _ _ _ _ _ z => z.elim, fun _ _ _ _ _ _ z => z.elim⟩
      fun c x s' σ' dx v J' H' f' z hx a' => qe c x dx v J' H' f'.tr z hx a'
end
end DW

/-! The judgements: a piece of syntax, its reading, what it is in data. -/
namespace DW
open PySem PySem.Spec
open PyProof.Rows L2 DL
section
variable (K : PySem.W.Frag) (er : Ers) (W : WX) (O : Md → Prop) (X : Cx)
abbrev DE (e : Expr) (te : TE) (we : WE) : Prop := PE X e te ∧ SE K er W O te we
abbrev DT (e : Expr) (tt : TT) (wt : WT) : Prop := PT X e tt ∧ ST K er W O tt wt
abbrev DTw (e : Expr) (tt : TT) (wt : WT) : Prop := PW X e tt ∧ ST K er W O tt wt
abbrev DTs (es : List Expr) (tt : TT) (wt : WT) : Prop := PTs X es tt ∧ ST K er W O tt wt
abbrev DA (es : List Expr) (t : TA) (wl : WA) : Prop := PA X es t ∧ SA K er W O t wl
abbrev DU (es : List Expr) (t : TA) (wu : WU) : Prop := PA X es t ∧ SU K er W O t wu
abbrev DK (ks : List Keyword) (t : TA) (wu : WU) : Prop := PK X ks t ∧ SU K er W O t wu
abbrev DO (e : Option Expr) (t : TO) (wo : WO) : Prop := PO X e t ∧ SO K er W O t wo
abbrev DI (tg e : Expr) (t : TI) (wi : WI) : Prop := PI X tg e t ∧ SI K er W O t wi
abbrev DS (st : Stmt) (t : TS) (ws : WS) : Prop := PS X st t ∧ SS K er W O t ws
abbrev DSs (st : List Stmt) (t : TS) (ws : WS) : Prop := PSs X st t ∧ SS K er W O t ws
end
abbrev DG (K : PySem.W.Frag) (X : Cx) (e : Expr) (t : TG) (wg : WG) : Prop := PG X e t ∧ SG K t wg
abbrev DGs (K : PySem.W.Frag) (X : Cx) (es : List Expr) (t : TGs) (wg : WGs) : Prop := PGs X es t ∧ SGs K t wg
section
variable {K : PySem.W.Frag} {er : Ers} {W : WX} {O : Md → Prop} {X : Cx} {e a b c : Expr} {es rest : List Expr} {ta tb tc te : TE} {wa wb wc we : WE} {tt tu : TT} {wt wu : WT} {t : TA} {wl : WA} {p p' pos : Pos} {x : Str}
theorem de_var {i : Nat} (h : PE X e (tVar i)) : DE K er W O X e (tVar i) (wVar i) := ⟨h, se_var⟩
theorem de_int {i : Int} (h : PE X e (tC (.int i))) : DE K er W O X e (tC (.int i)) (wC (.int i)) := ⟨h, se_int⟩
theorem de_bl {z : Bool} (h : PE X e (tC (.bl z))) : DE K er W O X e (tC (.bl z)) (wC (.bool z)) := ⟨h, se_bl⟩
theorem de_str {z : Str} (h : PE X e (tC (.str z))) : DE K er W O X e (tC (.str z)) (wC (.str z)) := ⟨h, se_str⟩
theorem de_non (h : PE X e (tC .non)) : DE K er W O X e (tC .non) (wC .none) := ⟨h, se_non⟩
theorem de_raw {v : V} (h : PE X e (tC v)) : DE K er W O X e (tC v) (wRaw v) := ⟨h, se_raw⟩
theorem de_op {op : Operator} {r : R2} {g : G2} (ho : OpR X (binaryOp op) r) (o : OpS K r g) (A : DE K er W O X a ta wa) (B : DE K er W O X b tb wb) : DE K er W O X (.BinOp a op b pos) (tOp r ta tb) (wOp g wa wb) := ⟨pe_op ho A.1 B.1, se_op o A.2 B.2⟩
theorem de_cmp {op : CmpOp} {r : R2} {g : G2} (ho : OpR X (compareOp op) r) (o : OpS K r g) (hm : behindInMarks op b = false) (A : DE K er W O X a ta wa) (B : DE K er W O X b tb wb) : DE K er W O X (.Compare a [op] [b] pos) (tOp r ta tb) (wOp g wa wb) := ⟨pe_cmpR ho A.1 B.1 hm, se_op o A.2 B.2⟩
theorem dt_cmp {op : CmpOp} {r : R2} {g : G2} (ho : OpR X (compareOp op) r) (o : OpS K r g) (hm : behindInMarks op b = false) (A : DE K er W O X a ta wa) (B : DE K er W O X b tb wb) : DT K er W O X (.Compare a [op] [b] pos) (tTest (tOp r ta tb)) (wTest (wOp g wa wb)) := ⟨pt_cmpR ho A.1 B.1 hm, st_test (se_op o A.2 B.2)⟩
theorem de_chain {op op' : CmpOp} {r r' : R2} {g g' : G2} (ho : OpR X (compareOp op) r) (ho' : OpR X (compareOp op') r') (o : OpS K r g) (o' : OpS K r' g') (A : DE K er W O X a ta wa) (B : DE K er W O X b tb wb) (C : DE K er W O X c tc wc) (hm : lastMarks [op, op'] [b, c] = false := by rfl) : DE K er W O X (.Compare a [op, op'] [b, c] pos) (tChain r r' ta tb tc) (wChain g g' wa wb wc) := ⟨pe_chain ho ho' A.1 B.1 C.1 hm, se_chain o o' A.2 B.2 C.2⟩
theorem dt_chain {op op' : CmpOp} {r r' : R2} {g g' : G2} (ho : OpR X (compareOp op) r) (ho' : OpR X (compareOp op') r') (o : OpS K r g) (o' : OpS K r' g') (A : DE K er W O X a ta wa) (B : DE K er W O X b tb wb) (C : DE K er W O X c tc wc) (hm : lastMarks [op, op'] [b, c] = false := by rfl) : DT K er W O X (.Compare a [op, op'] [b, c] pos) (tTest (tChain r r' ta tb tc)) (wTest (wChain g g' wa wb wc)) := ⟨pt_chain ho ho' A.1 B.1 C.1 hm, st_test (se_chain o o' A.2 B.2 C.2)⟩
theorem de_un {op : UnaryOp} {r : V → Hp → VK → Prop} {g : G1} (ho : UnR X (unaryOp op) r) (o : UnS K r g) (A : DE K er W O X a ta wa) : DE K er W O X (.UnaryOp op a pos) (tUn r ta) (wUn g wa) := ⟨pe_un ho A.1, se_un o A.2⟩
theorem de_not (A : DE K er W O X a ta wa) : DE K er W O X (.UnaryOp .Not a pos) (tNotV ta) (wNotV wa) := ⟨pe_not A.1, se_notV A.2⟩
theorem de_and (A : DE K er W O X a ta wa) (B : DE K er W O X (.BoolOp .And (b :: rest) pos) tb wb) : DE K er W O X (.BoolOp .And (a :: b :: rest) pos) (tAndV ta tb) (wAndV wa wb) := ⟨pe_and A.1 B.1, se_andV A.2 B.2⟩
theorem de_or (A : DE K er W O X a ta wa) (B : DE K er W O X (.BoolOp .Or (b :: rest) pos) tb wb) : DE K er W O X (.BoolOp .Or (a :: b :: rest) pos) (tOrV ta tb) (wOrV wa wb) := ⟨pe_or A.1 B.1, se_orV A.2 B.2⟩
theorem de_one {op : PySem.BoolOp} (A : DE K er W O X a ta wa) : DE K er W O X (.BoolOp op [a] pos) ta wa := ⟨pe_one A.1, A.2⟩
theorem de_ifx (C : DT K er W O X c tt wt) (A : DE K er W O X a ta wa) (B : DE K er W O X b tb wb) : DE K er W O X (.IfExp c a b pos) (tIf tt ta tb) (wIf wt wa wb) := ⟨pe_ifExp C.1 A.1 B.1, se_if C.2 A.2 B.2⟩
theorem da_nil' : DA K er W O X [] tNil waNil := ⟨pa_nil, sa_nil⟩
theorem da_cons' (A : DE K er W O X e te we) (R : DA K er W O X es t wl) (hs : starEach (e :: es) X.env = (false, eval e X.env) :: starEach es X.env := by rfl) : DA K er W O X (e :: es) (tCons te t) (waCons we wl) := ⟨pa_cons A.1 R.1 hs, sa_cons A.2 R.2⟩
theorem du_nil : DU K er W O X [] tNil wuNil := ⟨pa_nil, su_nil⟩
theorem du_cons {wu : WU} (A : DE K er W O X e te we) (R : DU K er W O X es t wu) (hs : starEach (e :: es) X.env = (false, eval e X.env) :: starEach es X.env := by rfl) : DU K er W O X (e :: es) (tCons te t) (wuCons we wu) := ⟨pa_cons A.1 R.1 hs, su_cons A.2 R.2⟩
theorem dk_nil : DK K er W O X [] tNil wuNil := ⟨pk_nil, su_nil⟩
theorem dk_cons {wu : WU} {kws : List Keyword} {nm : Option Str} {kpos : Pos} (A : DE K er W O X e te we) (R : DK K er W O X kws t wu) : DK K er W O X (⟨nm, e, kpos⟩ :: kws) (tCons te t) (wuCons we wu) := ⟨pk_cons A.1 R.1, su_cons A.2 R.2⟩
theorem de_tup {y} (R : DA K er W O X es t wl) : DE K er W O X (.Tuple es y pos) (tTup t) (wTup wl) := ⟨pe_tup R.1, se_tup R.2⟩
theorem de_lst (R : DA K er W O X es t wl) : DE K er W O X (.List es pos) (tLst t) (wLst wl) := ⟨pe_lst R.1, se_lst R.2⟩
theorem de_ix (hK : X.K = K) (A : DE K er W O X a ta wa) (B : DE K er W O X b tb wb) (hs : PlainIx b := by exact fun _ _ => rfl) : DE K er W O X (.Subscript a b pos) (tOp (rIx K) ta tb) (wOp gIx wa wb) := ⟨xIxK K hK A.1 B.1 hs, se_op os_ix A.2 B.2⟩
theorem do_none : DO K er W O X none tNoPart woNone := ⟨po_none, so_none⟩
theorem do_some (A : DE K er W O X a ta wa) : DO K er W O X (some a) (tPart ta) (woSome wa) := ⟨po_some A.1, so_some A.2⟩
theorem sl_u : SlR X (rSlU X.K) := fun pins s σ H x v vl vu lo hi sl Q I rx hs pl pu h => by
  rcases h with h | h | h
  · exact sl_list pins s σ H x v vl vu lo hi sl Q I rx hs pl pu h
  · exact sl_tupA pins s σ H x v vl vu lo hi sl Q I rx hs pl pu h
  · exact sl_str pins s σ H x v vl vu lo hi sl Q I rx hs pl pu h
theorem de_sl {lo hi : Option Expr} {tl th : TO} {wlo whi : WO} (hK : X.K = K) (A : DE K er W O X a ta wa) (L : DO K er W O X lo tl wlo) (U : DO K er W O X hi th whi) : DE K er W O X (.Subscript a (.Slice lo hi none p) pos) (tSl (rSlU K) ta tl th) (wSl wa wlo whi) := by
  subst hK
  exact ⟨pe_slice sl_u A.1 L.1 U.1, se_sl A.2 L.2 U.2⟩
theorem de_rev {k : Nat} {p1 p2 p3 : Pos} (hK : X.K = K) (A : DE K er W O X a ta wa) : DE K er W O X (.Subscript a (.Slice none none (some (.UnaryOp .USub (.Constant (.int 1) k p1) p2)) p3) pos) (tRevL K ta) (wUn gRev wa) := by
  subst hK
  exact ⟨pe_revL A.1, se_rev A.2⟩
/-! the operators' rules -/
theorem op_addW (hK : X.K = K) : OpR X (binaryOp .Add) (rPlus K) := op_plusK K hK
theorem op_eqW (hK : X.K = K) (hu : X.A.units + 64 < cLine) : OpR X (compareOp .Eq) (rEqD K) := op_eqK K hK hu
theorem op_neW (hK : X.K = K) (hu : X.A.units + 64 < cLine) : OpR X (compareOp .NotEq) (rNeD K) := op_neK K hK hu
theorem op_ltW : OpR X (compareOp .Lt) (rB0 (fun i j => decide (i < j)) fun i j => decide (i.cps.toList < j.cps.toList)) := or_op op_lt op_lt_str
theorem op_leW : OpR X (compareOp .LtE) (rB0 (fun i j => decide (i ≤ j)) fun i j => !decide (j.cps.toList < i.cps.toList)) := or_op op_le op_le_str
theorem op_gtW : OpR X (compareOp .Gt) (rB0 (fun i j => decide (j < i)) fun i j => decide (j.cps.toList < i.cps.toList)) := or_op op_gt op_gt_str
theorem op_geW : OpR X (compareOp .GtE) (rB0 (fun i j => decide (j ≤ i)) fun i j => !decide (i.cps.toList < j.cps.toList)) := or_op op_ge op_ge_str
theorem op_inW (hK : X.K = K) (hu : X.A.units + 65 < cLine) : OpR X (compareOp .In) (rInU K) := or_op (op_inK K hK hu) (or_op (op_inTK K hK hu) op_in_sign)
theorem op_niW (hK : X.K = K) (hu : X.A.units + 65 < cLine) : OpR X (compareOp .NotIn) (rNotInU K) := or_op (op_niK K hK hu) (or_op (op_niTK K hK hu) op_notIn_sign)
/-! tests -/
theorem dt_val (A : DE K er W O X a ta wa) (he : ∀ whole, isTrue a X.env whole = (do let v ← whole; standAt a.pos; holding [v] (truthy v)) := by intro _; rfl) : DT K er W O X a (tB ta) (wTest wa) := ⟨pt_val A.1 he, st_B A.2⟩
theorem dt_tr (hK : X.K = K) (A : DE K er W O X a ta wa) (he : ∀ whole, isTrue a X.env whole = (do let v ← whole; standAt a.pos; holding [v] (truthy v)) := by intro _; rfl) : DT K er W O X a (tTruth K ta) (wTr wa) := ⟨xTruthK K hK A.1 he, st_tr A.2⟩
theorem dt_not (A : DT K er W O X a tt wt) : DT K er W O X (.UnaryOp .Not a pos) (tNot tt) (wNot wt) := ⟨pt_not A.1, st_not A.2⟩
theorem dt_w (A : DTw K er W O X a tt wt) : DT K er W O X a tt wt := ⟨A.1.pt, A.2⟩
theorem dw_and1 (A : DT K er W O X a tt wt) : DTw K er W O X (.BoolOp .And [a] pos) tt wt := ⟨pw_and1 A.1, A.2⟩
theorem dw_or1 (A : DT K er W O X a tt wt) : DTw K er W O X (.BoolOp .Or [a] pos) tt wt := ⟨pw_or1 A.1, A.2⟩
theorem dw_and (A : DT K er W O X a tt wt) (B : DTw K er W O X (.BoolOp .And (b :: rest) pos) tu wu) : DTw K er W O X (.BoolOp .And (a :: b :: rest) pos) (tAnd tt tu) (wAnd wt wu) := ⟨pw_and A.1 B.1, st_and A.2 B.2⟩
theorem dw_or (A : DT K er W O X a tt wt) (B : DTw K er W O X (.BoolOp .Or (b :: rest) pos) tu wu) : DTw K er W O X (.BoolOp .Or (a :: b :: rest) pos) (tOr tt tu) (wOr wt wu) := ⟨pw_or A.1 B.1, st_or A.2 B.2⟩
theorem dts_nil : DTs K er W O X [] tYes wYes := ⟨pts_nil, st_yes⟩
theorem dts_one (A : DT K er W O X a tt wt) : DTs K er W O X [a] tt wt := ⟨pts_one A.1, A.2⟩
/-! built-in calls -/
theorem de_b1 {id : String} {r : List V → Hp → VK → Prop} {g : G1} (hc : CallR X (.builtin id) r) (o : UnS K (fun x H Q => r [x] H Q) g) (hm : X.mg x = none) (A : DE K er W O X a ta wa) (hg : Gl X x := by rfl) (hv : bootBuiltins x = some (.builtin id) := by decide +kernel) (hn : x ≠ "__name__" := by decide) (hdb : (x == ("__debug__" : Str)) = false := by decide)
    (he : starEach [a] X.env = (false, eval a X.env) :: starEach [] X.env := by rfl) (hpl : (backTo pos (starEach [] X.env)).any (·.1) = false := by rfl) : DE K er W O X (.Call (.Name x p) [a] [] pos) (tCB r (tCons ta tNil)) (wUn g wa) := ⟨xB r hc hm (pa_cons A.1 pa_nil he) hg hv hn hdb he hpl, se_cb1 o A.2⟩
theorem de_t1 {T : String} {r : List V → Hp → VK → Prop} {g : G1} (hc : CallR X (.type T) r) (o : UnS K (fun x H Q => r [x] H Q) g) (hm : X.mg x = none) (A : DE K er W O X a ta wa) (hg : Gl X x := by rfl) (hv : bootBuiltins x = some (.type T) := by decide +kernel) (hn : x ≠ "__name__" := by decide) (hdb : (x == ("__debug__" : Str)) = false := by decide)
    (he : starEach [a] X.env = (false, eval a X.env) :: starEach [] X.env := by rfl) (hpl : (backTo pos (starEach [] X.env)).any (·.1) = false := by rfl) : DE K er W O X (.Call (.Name x p) [a] [] pos) (tCB r (tCons ta tNil)) (wUn g wa) := ⟨xT r hc hm (pa_cons A.1 pa_nil he) hg hv hn hdb he hpl, se_cb1 o A.2⟩
theorem de_bn {id : String} {r : List V → Hp → VK → Prop} {g : List PyData → (PyData → Prop) → Prop} (hc : CallR X (.builtin id) r) (o : CbS K r g) (hm : X.mg x = none) (A : DA K er W O X (e :: es) t wl) (hg : Gl X x := by rfl) (hv : bootBuiltins x = some (.builtin id) := by decide +kernel) (hn : x ≠ "__name__" := by decide) (hdb : (x == ("__debug__" : Str)) = false := by decide)
    (he : starEach (e :: es) X.env = (false, eval e X.env) :: starEach es X.env := by rfl) (hpl : (backTo pos (starEach es X.env)).any (·.1) = false := by rfl) : DE K er W O X (.Call (.Name x p) (e :: es) [] pos) (tCB r t) (wCB g wl) := ⟨xB r hc hm A.1 hg hv hn hdb he hpl, se_cb o A.2⟩
theorem callW_isi (hK : X.K = K) : CallR X (.builtin "isinstance") (rIsi K) := by subst hK; exact call_isi
theorem callW_isiT (hK : X.K = K) : CallR X (.builtin "isinstance") (rIsiT K) := by subst hK; exact call_isiT
theorem de_isi {n : String} {y : Str} {p2 : Pos} (hK : X.K = K) (hn : n ∈ tys) (hm : X.mg "isinstance" = none) (A : DE K er W O X a ta wa) (B : PE X (.Name y p2) (tC (.ty n))) (hg : Gl X "isinstance" := by rfl)
    (he : starEach [a, .Name y p2] X.env = (false, eval a X.env) :: starEach [.Name y p2] X.env := by rfl) (he2 : starEach [.Name y p2] X.env = (false, eval (.Name y p2) X.env) :: starEach [] X.env := by rfl) (hpl : (backTo pos (starEach [.Name y p2] X.env)).any (·.1) = false := by rfl) :
    DE K er W O X (.Call (.Name "isinstance" p) [a, .Name y p2] [] pos) (tCB (rIsi K) (tCons ta (tCons (tC (.ty n)) tNil))) (wIsi n wa) := ⟨xB _ (callW_isi hK) hm (pa_cons A.1 (pa_cons B pa_nil he2) he) hg (by decide +kernel) (by decide) (by decide) he hpl, se_isi hn A.2⟩
theorem de_isi2 {n m : String} {c : Expr} (hK : X.K = K) (hn : n ∈ tys) (hn2 : m ∈ tys) (hm : X.mg "isinstance" = none) (A : DE K er W O X a ta wa) (B : PE X c (tTup (tCons (tC (.ty n)) (tCons (tC (.ty m)) tNil)))) (hg : Gl X "isinstance" := by rfl)
    (he : starEach [a, c] X.env = (false, eval a X.env) :: starEach [c] X.env := by rfl) (he2 : starEach [c] X.env = (false, eval c X.env) :: starEach [] X.env := by rfl) (hpl : (backTo pos (starEach [c] X.env)).any (·.1) = false := by rfl) :
    DE K er W O X (.Call (.Name "isinstance" p) [a, c] [] pos) (tCB (rIsiT K) (tCons ta (tCons (tTup (tCons (tC (.ty n)) (tCons (tC (.ty m)) tNil))) tNil))) (wIsi2 n m wa) := ⟨xB _ (callW_isiT hK) hm (pa_cons A.1 (pa_cons B pa_nil he2) he) hg (by decide +kernel) (by decide) (by decide) he hpl, se_isi2 hn hn2 A.2⟩
end
/-! calls of defs -/
theorem passW {X : Cx} {W : WX} (tk : Takes X W) : ∀ σ, PassesAt (L2.CX X.prog X.w) X σ (L2.WE W σ) := fun σ => passAt tk σ
theorem passN {X : Cx} : ∀ σ, PassesAt (L2.CX X.prog X.w) X σ (L2.WE W0 σ) := fun σ pins H s e s' I h => by
  obtain ⟨_, _, _, _, _, _, _, _, _, _, _, _, z⟩ := h
  exact z.elim
section
variable {K : PySem.W.Frag} {er : Ers} {W : WX} {O O' : Md → Prop} {X : Cx} {e a b c : Expr} {es rest : List Expr} {ta tb tc te : TE} {wa wb wc we : WE} {tt tu : TT} {wt : WT} {t tk : TA} {wu wk : WU} {p p' pos : Pos} {x : Str} {k n : Nat} {ps ks : List Str} {π : List Nat} {kws : List Keyword} {pre : List AV → Prop} {post : List AV → PyData → Prop} {exc : List AV → Str → PyData → Prop}
theorem de_call (C : Ca5 X.prog X.w X.K X.mg X.base (L2.CX X.prog X.w) k x ps (spU K er O' pre post exc)) (hA : X.A.guards = some []) (hr : Room k X.A) (hx : ∀ σ, PassesAt (L2.CX X.prog X.w) X σ (L2.WE W σ)) (hO : ∀ M, O M → O' M) (A : DU K er W O X (e :: es) t wu) (hg : Gl X x := by rfl) (hdb : (x == ("__debug__" : Str)) = false := by decide)
    (he : starEach (e :: es) X.env = (false, eval e X.env) :: starEach es X.env := by rfl) (hpl : (backTo pos (starEach es X.env)).any (·.1) = false := by rfl) : DE K er W O X (.Call (.Name x p) (e :: es) [] pos) (tCallS (spU K er O' pre post exc) (L2.WE W) t) (wCall pre post exc wu) := ⟨pe_callW C hA hr hx A.1 hg hdb he hpl, se_call hO A.2⟩
theorem de_callK (C : CaN X.prog X.w X.K X.mg X.base (L2.CX X.prog X.w) k x ps n ks π (spU K er O' pre post exc)) (hA : X.A.guards = some []) (hr : Room k X.A) (hx : ∀ σ, PassesAt (L2.CX X.prog X.w) X σ (L2.WE W σ)) (hO : ∀ M, O M → O' M) (A : DU K er W O X (e :: es) t wu) (B : DK K er W O X kws tk wk) (hg : Gl X x := by rfl) (hdb : (x == ("__debug__" : Str)) = false := by decide)
    (hall : (backToKw pos (keywordEach kws X.env)).all (·.1.isSome) = true := by rfl) (hks : (backToKw pos (keywordEach kws X.env)).filterMap (·.1) = ks := by rfl) (he : starEach (e :: es) X.env = (false, eval e X.env) :: starEach es X.env := by rfl)
    (hpl : ((backTo pos (starEach (e :: es) X.env)).any (·.1) || (backToKw pos (keywordEach kws X.env)).any (·.1.isNone)) = false := by rfl) : DE K er W O X (.Call (.Name x p) (e :: es) kws pos) (tCallW (spU K er O' pre post exc) π n ks.length (L2.WE W) t tk) (wCallK pre post exc π n ks.length wu wk) := ⟨pe_callWK C hA hr hx A.1 B.1 hg hdb hall hks he hpl, se_callK hO A.2 B.2⟩
theorem de_call0 (C : CaN X.prog X.w X.K X.mg X.base (L2.CX X.prog X.w) k x ps 0 ks π (spU K er O' pre post exc)) (hA : X.A.guards = some []) (hr : Room k X.A) (hx : ∀ σ, PassesAt (L2.CX X.prog X.w) X σ (L2.WE W σ)) (hO : ∀ M, O M → O' M) (B : DK K er W O X kws tk wk) (hg : Gl X x := by rfl) (hdb : (x == ("__debug__" : Str)) = false := by decide)
    (hall : (backToKw pos (keywordEach kws X.env)).all (·.1.isSome) = true := by rfl) (hks : (backToKw pos (keywordEach kws X.env)).filterMap (·.1) = ks := by rfl)
    (hpl : ((backTo pos (starEach [] X.env)).any (·.1) || (backToKw pos (keywordEach kws X.env)).any (·.1.isNone)) = false := by rfl) : DE K er W O X (.Call (.Name x p) [] kws pos) (tCallW (spU K er O' pre post exc) π 0 ks.length (L2.WE W) tNil tk) (wCallK pre post exc π 0 ks.length wuNil wk) := ⟨pe_callW0 C hA hr hx B.1 hg hdb hall hks hpl, se_callK hO su_nil B.2⟩
end
/-! targets, what is walked, comprehensions -/
section
variable {K : PySem.W.Frag} {er : Ers} {W : WX} {O : Md → Prop} {X : Cx} {e a b c tg : Expr} {es rest : List Expr} {ta tb tc te : TE} {wa wb wc we : WE} {tt tu : TT} {wt wu : WT} {t : TA} {wl : WA} {p p' pos pos' : Pos} {x : Str} {i : Nat} {g : TG} {gs : TGs} {wg : WG} {wgs : WGs} {wi : TI} {ww : WI}
theorem dg_name (h : PG X a (gName i)) : DG K X a (gName i) (wgName i) := ⟨h, sg_name⟩
theorem dgs_nil : DGs K X [] gNil wgNil := ⟨pgs_nil, sg_nil⟩
theorem dgs_cons (A : DG K X a g wg) (B : DGs K X es gs wgs) (hs : (assignEach (a :: es) X.env).map (·.2) = assign a X.env :: (assignEach es X.env).map (·.2) := by rfl) : DGs K X (a :: es) (gCons g gs) (wgCons wg wgs) := ⟨pgs_cons A.1 B.1 hs, sg_cons A.2 B.2⟩
theorem di_seq (hK : X.K = K) (A : DE K er W O X a ta wa) : DI K er W O X tg a (iSeqS K ta) (wiSeq wa) := ⟨⟨fun pins s σ H R I h => thn (A.1.run pins s σ H _ I h) fun v s1 ⟨x, G, I1, r1, told⟩ => by
    subst hK
    have one : ∀ {o : Obj} {b : Addr}, b ∈ [s1.heap.objs.size] → FpOk X pins G b := fun {o b} hb => by
      rw [List.mem_singleton.mp hb]
      exact I1.fpOk (Nat.le_refl _) (I1.hok.fresh (Nat.le_refl _))
    rcases told with ⟨a, xs, e, told⟩ | ⟨z, e, r⟩
    · subst e
      cases r1
      rcases told with ⟨hq, r⟩ | ⟨hq, r⟩
      · obtain ⟨its, _, p, _⟩ := I1.list hq
        exact wpAny_pyIter_list p.isList ⟨s1.heap.objs.size, [s1.heap.objs.size], _, _, G, rfl, I1.kept (t' := s1.toks) fun b o e => Heap.get?_push_of_some _ e, turn_list a _, ⟨_, Heap.get?_push_size _ rfl, rfl, rfl⟩, fun b hb => one (o := ⟨.none, none, .plain, #[]⟩) hb, r⟩
      · obtain ⟨its, _, p, _⟩ := I1.tuple hq
        exact wpAny_pyIter_tuple (show s1.heap.IsTuple a its.toArray from p) ⟨s1.heap.objs.size, [s1.heap.objs.size], _, _, G, rfl, I1.kept (t' := s1.toks) fun b o e => Heap.get?_push_of_some _ e, turn_tuple a _, ⟨_, Heap.get?_push_size _ rfl, rfl, rfl⟩, fun b hb => one (o := ⟨.none, none, .plain, #[]⟩) hb, r⟩
    · subst e
      obtain ⟨t, rfl⟩ := r1
      cases ha : z.cps.all (· < 128)
      · exact wpAny_pyIter_wide ha (pi_one (tk := s1.toks) I1 _ (turn_str _ z t "str_iterator" (.inr rfl)) ⟨_, Heap.get?_push_size _ rfl, rfl, rfl⟩ r)
      · exact wpAny_pyIter_ascii ha (pi_one (tk := s1.toks) I1 _ (turn_str _ z t "str_ascii_iterator" (.inl rfl)) ⟨_, Heap.get?_push_size _ rfl, rfl, rfl⟩ r)⟩, si_seq A.2⟩
theorem dg_tup (hK : X.K = K) {n : Nat} {y} (hc : X.calm = true) (A : DGs K X es gs wgs) (hn : (assignEach es X.env).length = n := by rfl) (hst : (assignEach es X.env).findIdx? (·.1) = none := by rfl) : DG K X (.Tuple es y pos) (gTup K n gs) (wgTup n wgs) := by
  subst hK
  exact ⟨pg_tup hc A.1 hn hst, sg_tup A.2⟩
theorem di_rng1 (hg : Gl X "range") (hm : X.mg "range" = none) (A : DA K er W O X [a] t wl) (hs : starEach [a] X.env = [(false, eval a X.env)] := by rfl) : DI K er W O X tg (.Call (.Name "range" p) [a] [] pos) (iRng1 t) (wiRng1 wl) := ⟨pi_range1 hg hm A.1 hs, si_rng1 A.2⟩
theorem di_rng2 (hg : Gl X "range") (hm : X.mg "range" = none) (A : DA K er W O X [a, b] t wl) (hs : starEach [a, b] X.env = [(false, eval a X.env), (false, eval b X.env)] := by rfl) (hs2 : starEach [b] X.env = [(false, eval b X.env)] := by rfl) : DI K er W O X tg (.Call (.Name "range" p) [a, b] [] pos) (iRng2 t) (wiRng2 wl) := ⟨pi_range2 hg hm A.1 hs hs2, si_rng2 A.2⟩
theorem de_lc {elt iter : Expr} {ifs : List Expr} {scope : Scope} {own : List (Str × Nat)} (hc : X.calm = true) (hN : X.N.Nodup) (hi : DI K er W O X tg iter wi ww) (ok : BlkOk X.N X.env.scope scope own) (tin : Tin (own.map (·.2)) g)
    (hg : ∀ (s : Shared) (H : Hp) (C : Addr) (cl : List (Str × Addr)) (fp : List Addr), DG K (X.blk s H scope (compEnvC scope cl C X.env) fp) tg g wg) (ht : ∀ (s : Shared) (H : Hp) (C : Addr) (cl : List (Str × Addr)) (fp : List Addr), DTs K er W0 O (X.blk s H scope (compEnvC scope cl C X.env) fp) ifs tt wt)
    (he : ∀ (s : Shared) (H : Hp) (C : Addr) (cl : List (Str × Addr)) (fp : List Addr), DE K er W0 O (X.blk s H scope (compEnvC scope cl C X.env) fp) elt te we) (hs : ∀ x, foldedSetIterable iter X.env x = pure x := by intro _; rfl) :
    DE K er W O X (.ListComp elt [⟨tg, iter, ifs, 0⟩] scope pos) (tLc wi g tt te (own.map (·.2))) (wLc ww wg wt we (own.map (·.2))) :=
  ⟨pe_lc hc hN hi.1 ok (fun s H C cl fp => (hg s H C cl fp).1) (fun s H C cl fp => (ht s H C cl fp).1) (fun s H C cl fp => (he s H C cl fp).1) hs,
    se_lc hi.2 (hg {} (fun _ => none) 0 [] []).2 tin (ht {} (fun _ => none) 0 [] []).2 (he {} (fun _ => none) 0 [] []).2⟩
theorem di_enum {x1 : Expr} (hK : X.K = K) (hg : Gl X "enumerate") (hm : X.mg "enumerate" = none) (A : DA K er W O X [x1] t wl) (h : PI X tg (.Call (.Name "enumerate" p) [x1] [] pos) (iEnum K t)) : DI K er W O X tg (.Call (.Name "enumerate" p) [x1] [] pos) (iEnum K t) (wiEnum wl) := ⟨h, si_enum A.2⟩
end
/-! statements -/
section
variable {K : PySem.W.Frag} {er : Ers} {W : WX} {O : Md → Prop} {X : Cx} {e a b c tg iter : Expr} {es : List Expr} {ta tb tc te : TE} {wa wb wc we : WE} {tt tu : TT} {wt wu : WT} {t : TA} {wl : WA} {p p' p2 pos pos' : Pos} {x y : Str} {i j : Nat} {g : TG} {gs : TGs} {wg : WG} {wgs : WGs} {wi : TI} {ww : WI} {st : Stmt} {rest body els : List Stmt} {ts us : TS} {ws vs : WS}
theorem dss_nil : DSs K er W O X [] tNext wNext := ⟨pss_nil, ss_nil⟩
theorem dss_cons (A : DS K er W O X st ts ws) (B : DSs K er W O X rest us vs) : DSs K er W O X (st :: rest) (tSeq ts us) (wSeq ws vs) := ⟨pss_cons A.1 B.1, ss_seq A.2 B.2⟩
theorem dss_one (A : DS K er W O X st ts ws) : DSs K er W O X [st] ts ws := ⟨pss_one A.1, A.2⟩
theorem ds_set (hN : X.N.Nodup) (hi : X.N[i]? = some x) (hx : Loc X.env.scope x) (A : DE K er W O X e te we) (hs : swapsWith e (some (.Name x p)) pos.line X.env = pure false := by rfl) (hf : X.fn x = true ∨ X.env.scope.names.lookup x = some .local := by first | exact .inl rfl | exact .inr rfl | assumption) : DS K er W O X (.Assign [.Name x p] e pos) (tAsg te (gName i)) (wSet i we) := ⟨ps_set hN hi hx A.1 hs hf, ss_set A.2⟩
theorem ds_new (hN : X.N.Nodup) (hi : X.N[i]? = some x) (hx : Loc X.env.scope x) (hs : swapsWith (.List [] p2) (some (.Name x p)) pos.line X.env = pure false := by rfl) (hf : X.fn x = true ∨ X.env.scope.names.lookup x = some .local := by first | exact .inl rfl | exact .inr rfl | assumption) : DS K er W O X (.Assign [.Name x p] (.List [] p2) pos) (tAsg (tLst tNil) (gName i)) (wNew i) := ⟨ps_set hN hi hx (pe_lst pa_nil) hs hf, ss_new⟩
theorem ds_newL (hN : X.N.Nodup) (hi : X.N[i]? = some x) (hx : Loc X.env.scope x) (A : DA K er W O X es t wl) (hs : swapsWith (.List es p2) (some (.Name x p)) pos.line X.env = pure false := by rfl) (hf : X.fn x = true ∨ X.env.scope.names.lookup x = some .local := by first | exact .inl rfl | exact .inr rfl | assumption) : DS K er W O X (.Assign [.Name x p] (.List es p2) pos) (tAsg (tLst t) (gName i)) (wNewL i wl) := ⟨ps_set hN hi hx (pe_lst A.1) hs hf, ss_newL A.2⟩
theorem ds_newC (hN : X.N.Nodup) (hi : X.N[i]? = some x) (hx : Loc X.env.scope x) (hc : CallR X (.type "list") (rLstOf K)) (hm : X.mg "list" = none) (A : DE K er W O X a ta wa) (hg : Gl X "list" := by rfl) (he : starEach [a] X.env = (false, eval a X.env) :: starEach [] X.env := by rfl) (hpl : (backTo pos' (starEach [] X.env)).any (·.1) = false := by rfl)
    (hs : swapsWith (.Call (.Name "list" p2) [a] [] pos') (some (.Name x p)) pos.line X.env = pure false := by rfl) (hf : X.fn x = true ∨ X.env.scope.names.lookup x = some .local := by first | exact .inl rfl | exact .inr rfl | assumption) : DS K er W O X (.Assign [.Name x p] (.Call (.Name "list" p2) [a] [] pos') pos) (tAsg (tCB (rLstOf K) (tCons ta tNil)) (gName i)) (wNewC i wa) := ⟨ps_set hN hi hx (xT _ hc hm (pa_cons A.1 pa_nil he) hg (by decide +kernel) (by decide) (by decide) he hpl) hs hf, ss_newC A.2⟩
theorem ds_asg (A : DE K er W O X e te we) (B : DG K X tg g wg) (hs : swapsWithSole [tg] e pos.line X.env = pure false := by rfl) (hw : swappedStores [tg] e X.env = pure none := by rfl) (h1 : (assignEach [tg] X.env).map (·.2) = [assign tg X.env] := by rfl) : DS K er W O X (.Assign [tg] e pos) (tAsg te g) (wAsg we wg) := ⟨ps_asg A.1 B.1 hs hw h1, ss_asg A.2 B.2⟩
theorem ds_par (h : PS X st (tPar i j t)) (A : SA K er W O t wl) : DS K er W O X st (tPar i j t) (wPar i j wl) := ⟨h, ss_par A⟩
theorem ds_par3 {k : Nat} (h : PS X st (tPar3 i j k t)) (A : SA K er W O t wl) : DS K er W O X st (tPar3 i j k t) (wPar3 i j k wl) := ⟨h, ss_par3 A⟩
theorem ds_expr (A : DE K er W O X e te we) (hs : swapsWith e none pos.line X.env = pure false := by rfl) : DS K er W O X (.Expr e pos) (tDrop te) (wExpr we) := ⟨ps_expr A.1 hs, ss_expr A.2⟩
theorem ds_app (h : PS X st (tDrop (tBM K "list" rAppend (tVar i) (tCons te tNil)))) (A : SE K er W O te we) : DS K er W O X st (tDrop (tBM K "list" rAppend (tVar i) (tCons te tNil))) (wApp i we) := ⟨h, ss_app A⟩
theorem ds_ext (h : PS X st (tDrop (tBM K "list" rExtend (tVar i) (tCons te tNil)))) (A : SE K er W O te we) : DS K er W O X st (tDrop (tBM K "list" rExtend (tVar i) (tCons te tNil))) (wExt i we) := ⟨h, ss_ext A⟩
theorem de_pop (h : PE X e (tBM0 K "list" rPop (tVar i))) : DE K er W O X e (tBM0 K "list" rPop (tVar i)) (wPop i) := ⟨h, se_pop⟩
theorem ds_if (C : DT K er W O X c tt wt) (A : DSs K er W O X body ts ws) (B : DSs K er W O X els us vs) : DS K er W O X (.If c body els pos) (tIfS tt ts us) (wIfS wt ws vs) := ⟨ps_if C.1 A.1 B.1, ss_if C.2 A.2 B.2⟩
theorem ds_ret (A : DE K er W O X e te we) : DS K er W O X (.Return (some e) pos) (tRet te) (wRet we) := ⟨ps_ret A.1, ss_ret A.2⟩
theorem ds_retN : DS K er W O X (.Return none pos) tRetN wRetN := ⟨ps_retN, ss_retN⟩
theorem ds_brk : DS K er W O X (.Break pos) tBreak wBreak := ⟨ps_break, ss_brk⟩
theorem ds_cont : DS K er W O X (.Continue pos) tCont wCont := ⟨ps_continue, ss_cont⟩
theorem ds_pass : DS K er W O X (.Pass pos) tNext wNext := ⟨ps_pass, ss_nil⟩
theorem ds_aug {op : Operator} {ti : TIp} {g : G2} (hN : X.N.Nodup) (hi : X.N[i]? = some x) (hx : Loc X.env.scope x) (ho : PIp X op ti) (o : OpS K ti g) (A : DE K er W O X e te we) (h : PS X st (tAug i te ti)) : DS K er W O X st (tAug i te ti) (wAug i g we) := ⟨h, ss_aug o A.2⟩
theorem ds_while (hp : PassesOwn (model X.prog X.w) X.A X.env X.xe) (C : DT K er W O X c tt wt) (A : DSs K er W O X body ts ws) : DS K er W O X (.While c body [] pos) (tWhile tt ts) (wWhile wt ws) := ⟨ps_while hp C.1 A.1, ss_while C.2 A.2⟩
theorem ds_for (hp : PassesOwn (model X.prog X.w) X.A X.env X.xe) (hc : X.calm = true) (hi : DI K er W O X tg iter wi ww) (hg : DG K X tg g wg) (A : DSs K er W O X body ts ws) (hs : ∀ x, foldedSetIterable iter X.env x = pure x := by intro _; rfl) : DS K er W O X (.For tg iter body [] pos) (tFor wi g ts) (wFor ww wg ws) := ⟨ps_for hp hc hi.1 hg.1 A.1 hs, ss_for hi.2 hg.2 A.2⟩
/-- raise C(e) -/
theorem ss_raise {f : Str} (hno : PySem.W.findIn K (.ref (er.cl x)) f = some none) (hf : er.fl x = f) (h : SE K er W O te we) : SS K er W O (tRz K (er.cl x) f te W) (wRaise x we) := fun M mo J0 H0 Pr s σ J H f' E D q kk he => by
  subst hf
  refine h M mo J0 H0 Pr s σ J H f' _ _ q he _ fun v r s1 J1 H1 f1 b1 va q1 => ?_
  obtain ⟨d, s2, J2, q2, b2, a2, f2⟩ := frz_use f1 va q1
  refine ⟨by show 1 ≤ 1000; decide, fun e he' => ⟨e, v, rfl, hno, upd_same, fun dx hx ne => ⟨rfl, dx, [(er.fl x, v)], upd_same, ?_, ?_, ?_⟩⟩⟩
  · rw [upd_ne ne, upd_same]
  · rw [upd_ne ne] at hx; exact hx
  · rw [upd_ne ne] at hx
    have e1 : upd (del (upd (upd (upd H1 e (exo e (er.cl x) none)) dx (exd dx [(er.fl x, v)])) e (exo e (er.cl x) (some dx))) e) dx (.xd [(er.fl x, v)]) = upd H1 dx (.xd [(er.fl x, v)]) := by
      funext b
      by_cases hb : b = dx
      · rw [hb, upd_same, upd_same]
      · rw [upd_ne hb, upd_ne hb]
        by_cases hc : b = e
        · rw [hc, del_same, he']
        · rw [del_ne hc, upd_ne hc, upd_ne hb, upd_ne hc]
    rw [e1]
    exact he x d s2 σ dx v J2 _ (f2.step (f2.wf.cell hx)) q2 upd_same a2
theorem ds_raise {f : Str} (R : Er X.prog X.w X.K X.mg X.base x (er.cl x) f) (hK : X.K = K) (hf : er.fl x = f) (hc : X.calm = true) (tk : Takes X W) (hr : Room 2 X.A) (A : DE K er W O X e te we) (hg : Gl X x := by rfl) (hdb : (x == ("__debug__" : Str)) = false := by decide)
    (hs : starEach [e] X.env = (false, eval e X.env) :: starEach [] X.env := by rfl) (hs2 : (backTo pos (starEach [] X.env)).any (·.1) = false := by rfl) : DS K er W O X (.Raise (some (.Call (.Name x p) [e] [] pos)) none pos') (tRz K (er.cl x) f te W) (wRaise x we) := by
  subst hK
  exact ⟨xRaise R hc tk hr A.1 hg hdb hs hs2, ss_raise R.no hf A.2⟩
end
end DW

/-! Several names at once, lists of one's own among them; a module's constants. -/
namespace DW
open PySem PySem.Spec
open PyProof.Rows L2 DL
inductive NV where
  | d (x : PyData) | new (xs : List PyData)
abbrev WN := Sl → (List NV → Sl → Prop) → EK → Prop
inductive NVs (K : PySem.W.Frag) (J : Hp) : List (Addr × HO) → List V → List NV → Prop
  | nil : NVs K J [] [] []
  | d {v : V} {x : PyData} {L : List (Addr × HO)} {vs : List V} {ns : List NV} : Da K J v x → NVs K J L vs ns → NVs K J L (v :: vs) (.d x :: ns)
  | new {p : Addr} {us : List V} {xs : List PyData} {L : List (Addr × HO)} {vs : List V} {ns : List NV} : Das K J us xs → NVs K J L vs ns → NVs K J ((p, .lst us) :: L) (.ref p :: vs) (.new xs :: ns)
def SN (K : PySem.W.Frag) (er : Ers) (W : WX) (O : Md → Prop) (ta : TA) (wn : WN) : Prop := ∀ M, O M → ∀ J0 H0 Pr s σ J H, Fr K M J0 H0 Pr s σ J H → ∀ Q e, wn s Q e → ErO K er W M J0 H0 Pr e →
  ∀ Qa : List V → Hp → Prop, (∀ L vs ns s' J' H', Fr K M J0 H0 (L ++ Pr) s' σ J' H' → Sub J J' → NVs K J' L vs ns → Q ns s' → Qa vs H') → ta σ H Qa
def wnNil (s : Sl) (Q : List NV → Sl → Prop) (_ : EK) : Prop := Q [] s
def wnD (wa : WE) (wr : WN) (s : Sl) (Q : List NV → Sl → Prop) (e : EK) : Prop := wa s (fun a s1 => frz a s1 fun x s2 => wr s2 (fun xs s3 => Q (.d x :: xs) s3) e) e
def wnNew (wl : WA) (wr : WN) (s : Sl) (Q : List NV → Sl → Prop) (e : EK) : Prop := wl s (fun xs s1 => xs.length ≤ sizeLine ∧ wr s1 (fun ns s2 => Q (.new xs :: ns) s2) e) e
def asgN (s : Sl) : List Nat → List NV → Sl
  | k :: ks, .d x :: ns => asgN (s.set k (some (.d x))) ks ns
  | k :: ks, .new xs :: ns => asgN (s.set k (some (.own xs))) ks ns
  | _, _ => s
def asgV (σ : L2.St) : List Nat → List V → L2.St
  | k :: ks, v :: vs => asgV (σ.set k (some v)) ks vs
  | _, _ => σ
def wParN (ks : List Nat) (wn : WN) (s : Sl) (E : EW) : Prop := wn s (fun ns s1 => ns.length = ks.length ∧ E.nx (asgN s1 ks ns)) E.er
section
variable {K : PySem.W.Frag} {er : Ers} {W : WX} {O : Md → Prop} {ta te : TE} {t t' : TA} {wa : WE} {wl : WA} {wn : WN} {M : Md} {J0 H0 J H J' : Hp} {Pr : List (Addr × HO)} {s : Sl} {σ : L2.St}
theorem NVs.sub (b : Sub J J') {L : List (Addr × HO)} {vs : List V} {ns : List NV} (h : NVs K J L vs ns) : NVs K J' L vs ns := by
  induction h with
  | nil => exact .nil
  | d a _ ih => exact .d (b.da a) ih
  | new a _ ih => exact .new (b.das a) ih
theorem nvs_len {L : List (Addr × HO)} {vs : List V} {ns : List NV} (h : NVs K J L vs ns) : vs.length = ns.length := by
  induction h with
  | nil => rfl
  | d _ _ ih => simp [ih]
  | new _ _ ih => simp [ih]
theorem Fr.perm {Pr' : List (Addr × HO)} (f : Fr K M J0 H0 Pr s σ J H) (h : ∀ q ∈ Pr', q ∈ Pr) (n : (Pr'.map Prod.fst).Nodup) : Fr K M J0 H0 Pr' s σ J H := ⟨f.w0, f.tr, f.len, f.at_, f.sep, fun q hq => f.prt q (h q hq), n⟩
theorem fr_giveN {L : List (Addr × HO)} {vs : List V} {ns : List NV} (a : NVs K J L vs ns) : ∀ {ks : List Nat} {s : Sl} {σ : L2.St}, Fr K M J0 H0 (L ++ Pr) s σ J H → ns.length = ks.length → Fr K M J0 H0 Pr (asgN s ks ns) (asgV σ ks vs) J H := by
  induction a with
  | nil =>
    intro ks s σ f hl
    cases ks with
    | nil => exact f
    | cons k ks => cases hl
  | d a _ ih =>
    intro ks s σ f hl
    cases ks with
    | nil => cases hl
    | cons k ks => exact ih (f.set a) (by simpa using hl)
  | new a _ ih =>
    intro ks s σ f hl
    cases ks with
    | nil => cases hl
    | cons k ks => exact ih (f.give a) (by simpa using hl)
theorem sn_nil : SN K er W O tNil wnNil := fun M mo J0 H0 Pr s σ J H f Q e q he Qa k => k [] [] [] s J H f (.refl _) .nil q
theorem sn_d (ha : SE K er W O ta wa) (hr : SN K er W O t wn) : SN K er W O (tCons ta t) (wnD wa wn) := fun M mo J0 H0 Pr s σ J H f Q e q he Qa k =>
  ha M mo J0 H0 Pr s σ J H f _ e q he _ fun x a s1 J1 H1 f1 b1 va q1 => by
    obtain ⟨dx, s2, J2, q2, b2, ax, f2⟩ := frz_use f1 va q1
    exact hr M mo J0 H0 Pr s2 σ J2 H1 f2 _ e q2 he _ fun L vs ds s3 J3 H3 f3 b3 a3 q3 => k _ _ _ s3 J3 H3 f3 ((b1.trans b2).trans b3) (.d (b3.da ax) a3) q3
theorem sn_new (hl : SA K er W O t' wl) (hr : SN K er W O t wn) : SN K er W O (tCons (tLst t') t) (wnNew wl wn) := fun M mo J0 H0 Pr s σ J H f Q e q he Qa k =>
  hl M mo J0 H0 Pr s σ J H f _ e q he _ fun us xs s1 J1 H1 f1 b1 a1 ⟨l1, q1⟩ => ⟨by rw [das_len a1]; exact l1, fun p hp => by
    have f2 := f1.prot (vs := us) hp
    refine hr M mo J0 H0 _ s1 σ J1 _ f2 _ e q1 (fun c x s σ dx v J H f => he c x s σ dx v J H f.unp) _ fun L vs ns s3 J3 H3 f3 b3 a3 q3 => ?_
    have hn := f3.pn
    refine k ((p, .lst us) :: L) _ _ s3 J3 H3 (f3.perm (fun q hq => ?_) ?_) (b1.trans b3) (.new (b3.das a1) a3) q3
    · rcases List.mem_cons.mp hq with rfl | hq
      · exact List.mem_append_right _ (List.mem_cons_self ..)
      · rcases List.mem_append.mp hq with hq | hq
        · exact List.mem_append_left _ hq
        · exact List.mem_append_right _ (List.mem_cons_of_mem _ hq)
    · rw [List.map_append, List.map_cons] at hn
      rw [List.cons_append, List.map_cons, List.map_append]
      exact List.perm_middle.nodup_iff.mp hn⟩
theorem ss_parN {k l : Nat} (h : SN K er W O t wn) : SS K er W O (tPar k l t) (wParN [k, l] wn) := fun M mo J0 H0 Pr s σ J H f E D q kk he =>
  h M mo J0 H0 Pr s σ J H f _ _ q he _ fun L vs ns s1 J1 H1 f1 b1 a1 ⟨hl, q1⟩ => by
    have f2 := fr_giveN a1 f1 hl
    have hv := (nvs_len a1).trans hl
    match vs, hv with
    | [v, w], _ => exact ⟨v, w, rfl, kk.nx _ _ _ _ f2 b1 q1⟩
theorem ss_parN3 {k l m : Nat} (h : SN K er W O t wn) : SS K er W O (tPar3 k l m t) (wParN [k, l, m] wn) := fun M mo J0 H0 Pr s σ J H f E D q kk he =>
  h M mo J0 H0 Pr s σ J H f _ _ q he _ fun L vs ns s1 J1 H1 f1 b1 a1 ⟨hl, q1⟩ => by
    have f2 := fr_giveN a1 f1 hl
    have hv := (nvs_len a1).trans hl
    match vs, hv with
    | [u, v, w], _ => exact ⟨u, v, w, rfl, kk.nx _ _ _ _ f2 b1 q1⟩
end
abbrev DN (K : PySem.W.Frag) (er : Ers) (W : WX) (O : Md → Prop) (X : Cx) (es : List Expr) (t : TA) (wn : WN) : Prop := PA X es t ∧ SN K er W O t wn
section
variable {K : PySem.W.Frag} {er : Ers} {W : WX} {O : Md → Prop} {X : Cx} {e : Expr} {es ls : List Expr} {te : TE} {we : WE} {t t' : TA} {wl : WA} {wn : WN} {p pos : Pos} {st : Stmt} {i j k : Nat}
theorem dn_nil : DN K er W O X [] tNil wnNil := ⟨pa_nil, sn_nil⟩
theorem dn_d (A : DE K er W O X e te we) (R : DN K er W O X es t wn) (hs : starEach (e :: es) X.env = (false, eval e X.env) :: starEach es X.env := by rfl) : DN K er W O X (e :: es) (tCons te t) (wnD we wn) := ⟨pa_cons A.1 R.1 hs, sn_d A.2 R.2⟩
theorem dn_new (L : DA K er W O X ls t' wl) (R : DN K er W O X es t wn) (hs : starEach (.List ls p :: es) X.env = (false, eval (.List ls p) X.env) :: starEach es X.env := by rfl) : DN K er W O X (.List ls p :: es) (tCons (tLst t') t) (wnNew wl wn) := ⟨pa_cons (pe_lst L.1) R.1 hs, sn_new L.2 R.2⟩
theorem ds_parN (h : PA X es t → PS X st (tPar i j t)) (A : DN K er W O X es t wn) : DS K er W O X st (tPar i j t) (wParN [i, j] wn) := ⟨h A.1, ss_parN A.2⟩
theorem ds_parN3 (h : PA X es t → PS X st (tPar3 i j k t)) (A : DN K er W O X es t wn) : DS K er W O X st (tPar3 i j k t) (wParN [i, j, k] wn) := ⟨h A.1, ss_parN3 A.2⟩
theorem ds_appD (hK : X.K = K) (h : ∀ {tt : TA}, PA X [e] tt → PS X st (tDrop (tBM X.K "list" rAppend (tVar i) tt))) (A : DE K er W O X e te we) (hs : starEach [e] X.env = (false, eval e X.env) :: starEach [] X.env := by rfl) : DS K er W O X st (tDrop (tBM K "list" rAppend (tVar i) (tCons te tNil))) (wApp i we) := by
  subst hK
  exact ds_app (h (pa_cons A.1 pa_nil hs)) A.2
theorem ds_extD (hK : X.K = K) (h : ∀ {tt : TA}, PA X [e] tt → PS X st (tDrop (tBM X.K "list" rExtend (tVar i) tt))) (A : DE K er W O X e te we) (hs : starEach [e] X.env = (false, eval e X.env) :: starEach [] X.env := by rfl) : DS K er W O X st (tDrop (tBM K "list" rExtend (tVar i) (tCons te tNil))) (wExt i we) := by
  subst hK
  exact ds_ext (h (pa_cons A.1 pa_nil hs)) A.2
theorem xGS {x z : Str} {pos : Pos} (h : ∃ t, X.mg x = some (.str z t)) (hg : Gl X x := by rfl) (hd : (x == ("__debug__" : Str)) = false := by decide) : PE X (.Name x pos) (tC (.str z)) := by
  obtain ⟨t, h⟩ := h
  exact pe_glob hg h ⟨t, rfl⟩ hd
theorem hu64 {A : Around} {k : Nat} (h : Room k A) : A.units + 64 < cLine := by have := h.un; omega
theorem hu65 {A : Around} {k : Nat} (h : Room k A) : A.units + 65 < cLine := by have := h.un; omega
end
end DW

/-! More operations. -/
namespace DW
open PySem PySem.Spec
open PyProof.Rows L2 DL
def gMin2 (xs : List PyData) (k : PyData → Prop) : Prop := match xs with
  | [.int i, .int j] => k (.int (if j < i then j else i))
  | _ => False
def gMax2 (xs : List PyData) (k : PyData → Prop) : Prop := match xs with
  | [.int i, .int j] => k (.int (if j > i then j else i))
  | _ => False
def gRep : G2
  | .tuple xs, .int n, k => xs ≠ [] ∧ -(2 ^ 60) < n ∧ n < 2 ^ 60 ∧ xs.length * n.toNat ≤ 100000 ∧ k (.tuple (List.replicate n.toNat xs).flatten)
  | .list xs, .int n, k => 0 ≤ n ∧ n < 2 ^ 60 ∧ xs.length * n.toNat ≤ sizeLine ∧ k (.list (List.replicate n.toNat xs).flatten)
  | _, _, _ => False
def gIsB : G2
  | .bool a, .bool b, k => k (.bool (decide (a = b)))
  | _, _, _ => False
def gIsntB : G2
  | .bool a, .bool b, k => k (.bool (!decide (a = b)))
  | _, _, _ => False
/-- the texts of a list -/
def strsOf : List PyData → Option (List Str)
  | [] => some []
  | .str z :: r => (strsOf r).map (z :: ·)
  | _ => none
/-- the ints, the truth values of a list -/
def intsOf : List PyData → Option (List Int)
  | [] => some []
  | .int z :: r => (intsOf r).map (z :: ·)
  | _ => none
def blsOf : List PyData → Option (List Bool)
  | [] => some []
  | .bool z :: r => (blsOf r).map (z :: ·)
  | _ => none
def gJoin : G2 := fun x y k => ∃ a ys zs, x = .str a ∧ (y = .list ys ∨ y = .tuple ys) ∧ strsOf ys = some zs ∧ (zs.map (·.length)).sum + zs.length * a.length ≤ 16777216 ∧ k (.str (Txt.join a zs))
def wJoin (wa wb : WE) (s : Sl) (Q : EV → Sl → Prop) (e : EK) : Prop := wa s (fun a s1 => match a with
  | .d (.str x) => wb s1 (fun b s2 => rdq b s2 fun y => gJoin (.str x) y fun z => Q (.d z) s2) e
  | _ => False) e
def gIndex : G2 := fun x y k => ∃ xs j z, x = .list xs ∧ SeqAt.shaped (.list xs) = true ∧ SeqAt.shaped y = true ∧ xs[j]? = some z ∧ PyData.eqv z y = true ∧ (∀ m z', m < j → xs[m]? = some z' → PyData.eqv z' y = false) ∧ k (.int (j : Nat))
def wIndex (wa wb : WE) (s : Sl) (Q : EV → Sl → Prop) (e : EK) : Prop := wa s (fun a s1 => (∃ xs, rdq a s1 fun x => x = .list xs) ∧ wb s1 (fun b s2 => rdq a s2 fun x => rdq b s2 fun y => gIndex x y fun z => Q (.d z) s2) e) e
def gAddI : G2
  | .int i, .int j, k => k (.int (i + j))
  | _, _, _ => False
def gSubI : G2
  | .int i, .int j, k => k (.int (i - j))
  | _, _, _ => False
def gSum : G1 := fun x k => ∃ xs ns, x = .list xs ∧ intsOf xs = some ns ∧ k (.int ns.sum)
def gAny : G1 := fun x k => ∃ xs bs, x = .list xs ∧ blsOf xs = some bs ∧ k (.bool (bs.any id))
def gAll : G1 := fun x k => ∃ xs bs, x = .list xs ∧ blsOf xs = some bs ∧ k (.bool (bs.all id))
def gMax1 : G1 := fun x k => ∃ xs ns, x = .list xs ∧ intsOf xs = some ns ∧ 0 < ns.length ∧ ∀ m, m ∈ ns → (∀ y ∈ ns, y ≤ m) → k (.int m)
def gMin1 : G1 := fun x k => ∃ xs ns, x = .list xs ∧ intsOf xs = some ns ∧ 0 < ns.length ∧ ∀ m, m ∈ ns → (∀ y ∈ ns, m ≤ y) → k (.int m)
/-- ints, or fewer than 64 texts -/
def gSorted : G1 := fun x k => ∃ xs, x = .list xs ∧ ((∃ ns, intsOf xs = some ns ∧ ∀ ns' : List Int, ns'.Perm ns → ns'.Pairwise (· ≤ ·) → k (.list (ns'.map .int))) ∨
  ∃ zs, strsOf xs = some zs ∧ zs.length < 64 ∧ ∀ zs' : List Str, zs'.Perm zs → sortedS zs' = true → k (.list (zs'.map .str)))
def gStr : G1
  | .int i, k => i.natAbs.log2 < 1920 ∧ k (.str (toString i))
  | .str z, k => k (.str z)
  | _, _ => False
def gOrd : G1
  | .str z, k => z.length = 1 ∧ k (.int (z.cps.getD 0 0 : Nat))
  | _, _ => False
section
variable {K : PySem.W.Frag} {J H : Hp} {vs : List V} {xs : List PyData}
theorem das_strs : ∀ {xs : List PyData} {vs : List V} {zs : List Str}, Das K J vs xs → strsOf xs = some zs → vs = zs.map V.str
  | [], _, _, .nil, e => by cases e; rfl
  | .str z :: ds, _, zs, .cons a b, e => by
    simp only [strsOf] at e
    cases q : strsOf ds with
    | none => rw [q] at e; cases e
    | some zs' => rw [q] at e; cases e; rw [da_str a, das_strs b q]; rfl
  | .int _ :: _, _, _, _, e => nomatch e
  | .bool _ :: _, _, _, _, e => nomatch e
  | .none :: _, _, _, _, e => nomatch e
  | .list _ :: _, _, _, _, e => nomatch e
  | .tuple _ :: _, _, _, _, e => nomatch e
  | .dict _ :: _, _, _, _, e => nomatch e
theorem das_intsO : ∀ {xs : List PyData} {vs : List V} {zs : List Int}, Das K J vs xs → intsOf xs = some zs → vs = zs.map V.int
  | [], _, _, .nil, e => by cases e; rfl
  | .int z :: ds, _, zs, .cons a b, e => by
    simp only [intsOf] at e
    cases q : intsOf ds with
    | none => rw [q] at e; cases e
    | some zs' => rw [q] at e; cases e; rw [da_int a, das_intsO b q]; rfl
  | .str _ :: _, _, _, _, e => nomatch e
  | .bool _ :: _, _, _, _, e => nomatch e
  | .none :: _, _, _, _, e => nomatch e
  | .list _ :: _, _, _, _, e => nomatch e
  | .tuple _ :: _, _, _, _, e => nomatch e
  | .dict _ :: _, _, _, _, e => nomatch e
theorem das_bls : ∀ {xs : List PyData} {vs : List V} {zs : List Bool}, Das K J vs xs → blsOf xs = some zs → vs = zs.map V.bl
  | [], _, _, .nil, e => by cases e; rfl
  | .bool z :: ds, _, zs, .cons a b, e => by
    simp only [blsOf] at e
    cases q : blsOf ds with
    | none => rw [q] at e; cases e
    | some zs' => rw [q] at e; cases e; rw [da_bl a, das_bls b q]; rfl
  | .str _ :: _, _, _, _, e => nomatch e
  | .int _ :: _, _, _, _, e => nomatch e
  | .none :: _, _, _, _, e => nomatch e
  | .list _ :: _, _, _, _, e => nomatch e
  | .tuple _ :: _, _, _, _, e => nomatch e
  | .dict _ :: _, _, _, _, e => nomatch e
theorem das_strV : ∀ zs : List Str, Das K J (zs.map V.str) (zs.map PyData.str)
  | [] => .nil
  | z :: zs => .cons (.str z) (das_strV zs)
end
section
variable {K : PySem.W.Frag}
theorem cs_min2 : CbS K (fun xs H Q => ∃ i j, xs = [.int i, .int j] ∧ Q (.int (if j < i then j else i)) H) gMin2 := fun M J H vs ds w a P hg Q q => by
  unfold gMin2 at hg; split at hg
  · cases a with
    | cons a b => obtain ⟨u, rfl, b2⟩ := das_one b; exact ⟨_, _, by rw [da_int a, da_int b2], q _ _ J H w.tr hg (.int _)⟩
  · exact hg.elim
theorem cs_max2 : CbS K (fun xs H Q => ∃ i j, xs = [.int i, .int j] ∧ Q (.int (if j > i then j else i)) H) gMax2 := fun M J H vs ds w a P hg Q q => by
  unfold gMax2 at hg; split at hg
  · cases a with
    | cons a b => obtain ⟨u, rfl, b2⟩ := das_one b; exact ⟨_, _, by rw [da_int a, da_int b2], q _ _ J H w.tr hg (.int _)⟩
  · exact hg.elim
def rRepU (K : PySem.W.Frag) : R2 := fun x y H Q => rRepW K x y H Q ∨ rRep x y H Q
theorem os_rep : OpS K (rRepU K) gRep := fun M J H x y dx dy w ax ay P hg Q q => by
  have rep : ∀ (m : Nat) {J : Hp} {vs : List V} {xs : List PyData}, Das K J vs xs → Das K J (List.replicate m vs).flatten (List.replicate m xs).flatten := fun m => by
    intro J vs xs hd
    induction m with
    | zero => exact .nil
    | succ m ih => rw [List.replicate_succ, List.replicate_succ, List.flatten_cons, List.flatten_cons]; exact das_app hd ih
  unfold gRep at hg; split at hg
  · rename_i xs n
    obtain ⟨h1, h2, h3, h4, hg⟩ := hg
    obtain ⟨a, vs, rfl, hl, hd, fx⟩ := dq_tup w.jh ax
    refine .inl ⟨a, n, vs, rfl, dq_int ay, hl, fun e => h1 (by subst e; cases hd; rfl), h2, h3, by rw [das_len hd]; exact h4, fun e => ?_, fun _ p hp => ?_⟩
    · subst e
      have e1 : (List.replicate (1 : Int).toNat xs).flatten = xs := by show (List.replicate 1 xs).flatten = xs; simp
      rw [e1] at hg
      exact q _ _ J H w.tr hg fx
    · have t := w.new (o := .tup (List.replicate n.toNat vs).flatten) hp
      exact q _ _ _ _ t hg (.tup (.of upd_same) (t.jj.das (rep _ hd)))
  · rename_i xs n
    obtain ⟨h1, h2, h3, hg⟩ := hg
    obtain ⟨a, vs, rfl, hl, hd⟩ := dq_lst w.jh ax
    refine .inr ⟨a, n, vs, rfl, dq_int ay, hl, by omega, by omega, by rw [das_len hd]; exact h3, fun p hp => ?_⟩
    have t := w.new (o := .lst (List.replicate n.toNat vs).flatten) hp
    exact q _ _ _ _ t hg (.lst upd_same (t.jj.das (rep _ hd)))
  · exact hg.elim
theorem os_isB : OpS K rIsB gIsB := fun M J H x y dx dy w ax ay P hg Q q => by
  unfold gIsB at hg; split at hg
  · exact ⟨_, _, dq_bl ax, dq_bl ay, q _ _ J H w.tr hg (.bl _)⟩
  · exact hg.elim
theorem os_isntB : OpS K rNotB gIsntB := fun M J H x y dx dy w ax ay P hg Q q => by
  unfold gIsntB at hg; split at hg
  · exact ⟨_, _, dq_bl ax, dq_bl ay, q _ _ J H w.tr hg (.bl _)⟩
  · exact hg.elim
theorem os_ipadd : OpS K (ipI fun i j => i + j) gAddI := fun M J H x y dx dy w ax ay P hg Q q => by
  unfold gAddI at hg; split at hg
  · exact ⟨_, _, dq_int ax, dq_int ay, q _ _ J H w.tr hg (.int _)⟩
  · exact hg.elim
theorem os_ipsub : OpS K (ipI fun i j => i - j) gSubI := fun M J H x y dx dy w ax ay P hg Q q => by
  unfold gSubI at hg; split at hg
  · exact ⟨_, _, dq_int ax, dq_int ay, q _ _ J H w.tr hg (.int _)⟩
  · exact hg.elim
theorem us_sum : UnS K (fun x H Q => rSum K [x] H Q) gSum := fun M J H x dx w ax P ⟨xs, ns, e, e2, hg⟩ Q q => by
  subst e
  obtain ⟨a, vs, rfl, hl, hd⟩ := dq_lst w.jh ax
  exact ⟨a, ns, rfl, by rw [← das_intsO hd e2]; exact .of hl, q _ _ J H w.tr hg (.int _)⟩
theorem us_any : UnS K (fun x H Q => rAny K [x] H Q) gAny := fun M J H x dx w ax P ⟨xs, ns, e, e2, hg⟩ Q q => by
  subst e
  obtain ⟨a, vs, rfl, hl, hd⟩ := dq_lst w.jh ax
  exact ⟨a, ns, rfl, by rw [← das_bls hd e2]; exact .of hl, q _ _ J H w.tr hg (.bl _)⟩
theorem us_all : UnS K (fun x H Q => rAll K [x] H Q) gAll := fun M J H x dx w ax P ⟨xs, ns, e, e2, hg⟩ Q q => by
  subst e
  obtain ⟨a, vs, rfl, hl, hd⟩ := dq_lst w.jh ax
  exact ⟨a, ns, rfl, by rw [← das_bls hd e2]; exact .of hl, q _ _ J H w.tr hg (.bl _)⟩
theorem us_max : UnS K (fun x H Q => rMax K [x] H Q) gMax1 := fun M J H x dx w ax P ⟨xs, ns, e, e2, h0, hg⟩ Q q => by
  subst e
  obtain ⟨a, vs, rfl, hl, hd⟩ := dq_lst w.jh ax
  exact ⟨a, ns, rfl, by rw [← das_intsO hd e2]; exact .of hl, h0, fun m h1 h2 => q _ _ J H w.tr (hg m h1 h2) (.int _)⟩
theorem us_min : UnS K (fun x H Q => rMin K [x] H Q) gMin1 := fun M J H x dx w ax P ⟨xs, ns, e, e2, h0, hg⟩ Q q => by
  subst e
  obtain ⟨a, vs, rfl, hl, hd⟩ := dq_lst w.jh ax
  exact ⟨a, ns, rfl, by rw [← das_intsO hd e2]; exact .of hl, h0, fun m h1 h2 => q _ _ J H w.tr (hg m h1 h2) (.int _)⟩
def rSortedU (K : PySem.W.Frag) : List V → Hp → VK → Prop := fun xs H Q => rSortedI K xs H Q ∨ rSortedS K xs H Q
theorem us_sorted : UnS K (fun x H Q => rSortedU K [x] H Q) gSorted := fun M J H x dx w ax P ⟨xs, e, hg⟩ Q q => by
  subst e
  obtain ⟨a, vs, rfl, hl, hd⟩ := dq_lst w.jh ax
  rcases hg with ⟨ns, e2, hg⟩ | ⟨zs, e2, h64, hg⟩
  · refine .inl ⟨a, ns, rfl, by rw [← das_intsO hd e2]; exact .of hl, fun ns' p h1 h2 hp => ?_⟩
    have t := w.new (o := .lst (ns'.map V.int)) hp
    exact q _ _ _ _ t (hg ns' h1 h2) (.lst upd_same (das_ints ns'))
  · refine .inr ⟨a, zs, rfl, by rw [← das_strs hd e2]; exact .of hl, h64, fun zs' p h1 h2 hp => ?_⟩
    have t := w.new (o := .lst (zs'.map V.str)) hp
    exact q _ _ _ _ t (hg zs' h1 h2) (.lst upd_same (das_strV zs'))
def rStrX : List V → Hp → VK → Prop := fun xs H Q => (∃ i, xs = [.int i] ∧ i.natAbs.log2 < 1920 ∧ Q (.str (toString i)) H) ∨ ∃ a, xs = [.str a] ∧ Q (.str a) H
theorem us_str : UnS K (fun x H Q => rStrX [x] H Q) gStr := fun M J H x dx w ax P hg Q q => by
  unfold gStr at hg; split at hg
  · exact .inl ⟨_, by rw [dq_int ax], hg.1, q _ _ J H w.tr hg.2 (.str _)⟩
  · exact .inr ⟨_, by rw [dq_str ax], q _ _ J H w.tr hg (.str _)⟩
  · exact hg.elim
theorem us_ord : UnS K (fun x H Q => (fun xs H Q => ∃ x : Str, xs = [V.str x] ∧ x.length = 1 ∧ Q (V.int (x.cps.getD 0 0 : Nat)) H) [x] H Q) gOrd := fun M J H x dx w ax P hg Q q => by
  unfold gOrd at hg; split at hg
  · exact ⟨_, by rw [dq_str ax], hg.1, q _ _ J H w.tr hg.2 (.int _)⟩
  · exact hg.elim
end
section
variable {K : PySem.W.Frag} {er : Ers} {W : WX} {O : Md → Prop} {X : Cx} {a b e tg : Expr} {es : List Expr} {ta tb te : TE} {wa wb we : WE} {t : TA} {wl : WA} {p p' p2 pos pos' apos tpos : Pos} {x : Str} {i : Nat} {st : Stmt}
theorem or_cb {f : Value} {r r' : List V → Hp → VK → Prop} (h : CallR X f r) (h' : CallR X f r') : CallR X f (fun xs H Q => r xs H Q ∨ r' xs H Q) := fun pins s σ H xs us Q I rx z => by
  rcases z with z | z
  · exact h pins s σ H xs us Q I rx z
  · exact h' pins s σ H xs us Q I rx z
theorem cr_sortedX (hK : X.K = K) : CallR X (.builtin "sorted") (rSortedU K) := by subst hK; exact or_cb cr_sortedI cr_sortedS
theorem cr_sumX (hK : X.K = K) (hc : X.calm = true) : CallR X (.builtin "sum") (rSum K) := by subst hK; exact cr_sum hc
theorem cr_anyX (hK : X.K = K) (hc : X.calm = true) : CallR X (.builtin "any") (rAny K) := by subst hK; exact cr_any hc
theorem cr_allX (hK : X.K = K) (hc : X.calm = true) : CallR X (.builtin "all") (rAll K) := by subst hK; exact cr_all hc
theorem cr_maxX (hK : X.K = K) (hc : X.calm = true) : CallR X (.builtin "max") (rMax K) := by subst hK; exact cr_max hc
theorem cr_minX (hK : X.K = K) (hc : X.calm = true) : CallR X (.builtin "min") (rMin K) := by subst hK; exact cr_min hc
theorem op_repX (hK : X.K = K) : OpR X (binaryOp .Mult) (rRepU K) := by subst hK; exact or_op op_repW op_rep
theorem op_isntBl : OpR X (compareOp .IsNot) rNotB := op_notBl
theorem se_join (ha : SE K er W O ta wa) (hb : SE K er W O tb wb) : SE K er W O (tM1 (fun x xs H Q => ∃ a p, ∃ ys : List Str, x = .str a ∧ xs = [.ref p] ∧ (SqL K H p (ys.map V.str) ∨ SqT K H p (ys.map V.str)) ∧ (ys.map (·.length)).sum + ys.length * a.length ≤ 16777216 ∧ Q (.str (Txt.join a ys)) H) ta tb) (wJoin wa wb) := fun M mo J0 H0 Pr s σ J H f Q e q he Qv k =>
  ha M mo J0 H0 Pr s σ J H f _ e q he _ fun x a s1 J1 H1 f1 b1 va q1 => by
    split at q1
    · rename_i z
      refine ⟨⟨z, da_str va⟩, hb M mo J0 H0 Pr s1 σ J1 H1 f1 _ e q1 he _ fun y b s2 J2 H2 f2 b2 vb q2 => ?_⟩
      obtain ⟨dy, ⟨a', ys, zs, ea, ey, es, hl, q3⟩, ay⟩ := rdq_use f2 vb q2
      cases ea
      rcases ey with rfl | rfl
      · obtain ⟨p, vs, rfl, hl2, hd⟩ := dq_lst f2.wf.jh ay
        exact ⟨z, p, zs, da_str va, rfl, .inl (by rw [← das_strs hd es]; exact .of hl2), hl, k _ (.d _) s2 J2 H2 f2 (b1.trans b2) (.str _) q3⟩
      · obtain ⟨p, vs, rfl, hl2, hd, _⟩ := dq_tup f2.wf.jh ay
        exact ⟨z, p, zs, da_str va, rfl, .inr (by rw [← das_strs hd es]; exact hl2), hl, k _ (.d _) s2 J2 H2 f2 (b1.trans b2) (.str _) q3⟩
    · exact q1.elim
theorem de_join (hK : X.K = K) (A : DE K er W O X a ta wa) (B : DE K er W O X b tb wb) (hs : starEach [b] X.env = [(false, eval b X.env)] := by rfl) (hbase : attributeBase a "join" X.env (eval a X.env) = eval a X.env := by rfl) (hline : (apos.endLine == pos.line) = true := by rfl) :
    DE K er W O X (.Call (.Attribute a "join" apos) [b] [] pos) (tM1 (fun x xs H Q => ∃ a p, ∃ ys : List Str, x = .str a ∧ xs = [.ref p] ∧ (SqL K H p (ys.map V.str) ∨ SqT K H p (ys.map V.str)) ∧ (ys.map (·.length)).sum + ys.length * a.length ≤ 16777216 ∧ Q (.str (Txt.join a ys)) H) ta tb) (wJoin wa wb) := by
  subst hK
  exact ⟨pe_join A.1 B.1 hs hbase hline, se_join A.2 B.2⟩
theorem se_index (ha : SE K er W O ta wa) (hb : SE K er W O tb wb) : SE K er W O (tBM K "list" (rIndexD K) ta (tCons tb tNil)) (wIndex wa wb) := fun M mo J0 H0 Pr s σ J H f Q e q he Qv k =>
  ha M mo J0 H0 Pr s σ J H f _ e q he _ fun x a s1 J1 H1 f1 b1 va ⟨⟨xs, q0⟩, q1⟩ => by
    obtain ⟨dx, e0, ax0⟩ := rdq_use f1 va q0
    subst e0
    obtain ⟨p, vs, rfl, hl, hd⟩ := dq_lst f1.wf.jh ax0
    refine ⟨.inl ⟨rfl, vs, .of hl⟩, hb M mo J0 H0 Pr s1 σ J1 H1 f1 _ e q1 he _ fun y b s2 J2 H2 f2 b2 vb q2 => ?_⟩
    obtain ⟨dx, q3, ax⟩ := rdq_use f2 (va.sub b2) q2
    obtain ⟨dy, ⟨ds, j, z, rfl, hs1, hs2, hj, hz, hno, q4⟩, ay⟩ := rdq_use f2 vb q3
    exact ⟨p, y, dy, ds, j, z, rfl, rfl, ax.dp f2.wf, ay.dp f2.wf, hs1, hs2, hj, hz, hno, k _ (.d _) s2 J2 H2 f2 (b1.trans b2) (.int _) q4⟩
theorem de_index (hK : X.K = K) (hu : X.A.units + 65 < cLine) (A : DE K er W O X a ta wa) (B : DE K er W O X b tb wb) (h : ∀ {to : TE} {tt : TA}, PE X a to → PA X [b] tt → PE X e (tBM X.K "list" (rIndexD X.K) to tt)) (hs : starEach [b] X.env = (false, eval b X.env) :: starEach [] X.env := by rfl) :
    DE K er W O X e (tBM K "list" (rIndexD K) ta (tCons tb tNil)) (wIndex wa wb) := by
  subst hK
  exact ⟨h A.1 (pa_cons B.1 pa_nil hs), se_index A.2 B.2⟩
/-! list(range(..)), tuple(range(..)) -/
inductive LT where | list | tuple
def LT.mk : LT → List PyData → PyData
  | .list, xs => .list xs
  | .tuple, xs => .tuple xs
def wRg1 (c : LT) (wa : WE) (s : Sl) (Q : EV → Sl → Prop) (e : EK) : Prop := wa s (fun a s1 => rdq a s1 fun x => ∃ n, x = .int n ∧ RgOk 0 n ∧ Q (.d (c.mk (rngD 0 n))) s1) e
def wRg2 (c : LT) (wa wb : WE) (s : Sl) (Q : EV → Sl → Prop) (e : EK) : Prop := wa s (fun a s1 => wb s1 (fun b s2 => rdq a s2 fun x => rdq b s2 fun y => ∃ i j, x = .int i ∧ y = .int j ∧ RgOk i j ∧ Q (.d (c.mk (rngD i j))) s2) e) e
theorem das_rgV {J : Hp} (i j : Int) : Das K J (rgV i j) (rngD i j) := by
  unfold rgV rngD
  generalize (List.range (j - i).toNat) = l
  induction l with
  | nil => exact .nil
  | cons x l ih => exact .cons (.int _) ih
theorem se_lstRg1 (ha : SE K er W O ta wa) : SE K er W O (tLstRg (tRg1 ta)) (wRg1 .list wa) := fun M mo J0 H0 Pr s σ J H f Q e q he Qv k =>
  ha M mo J0 H0 Pr s σ J H f _ e q he _ fun x a s1 J1 H1 f1 b1 va q1 => by
    obtain ⟨dx, ⟨n, rfl, ok, q2⟩, ax⟩ := rdq_use f1 va q1
    refine ⟨n, dq_int ax, ok, fun p hp => ?_⟩
    have t := f1.wf.new (o := .lst (rgV 0 n)) hp
    exact k _ (.d _) s1 _ _ (f1.step t) (b1.trans t.jj) (.lst upd_same (das_rgV 0 n)) q2
theorem se_tupRg1 (ha : SE K er W O ta wa) : SE K er W O (tTupRg (tRg1 ta)) (wRg1 .tuple wa) := fun M mo J0 H0 Pr s σ J H f Q e q he Qv k =>
  ha M mo J0 H0 Pr s σ J H f _ e q he _ fun x a s1 J1 H1 f1 b1 va q1 => by
    obtain ⟨dx, ⟨n, rfl, ok, q2⟩, ax⟩ := rdq_use f1 va q1
    refine ⟨n, dq_int ax, ok, fun p hp => ?_⟩
    have t := f1.wf.new (o := .tup (rgV 0 n)) hp
    exact k _ (.d _) s1 _ _ (f1.step t) (b1.trans t.jj) (.tup (.of upd_same) (das_rgV 0 n)) q2
theorem se_lstRg2 (ha : SE K er W O ta wa) (hb : SE K er W O tb wb) : SE K er W O (tLstRg (tRg2 ta tb)) (wRg2 .list wa wb) := fun M mo J0 H0 Pr s σ J H f Q e q he Qv k =>
  ha M mo J0 H0 Pr s σ J H f _ e q he _ fun x a s1 J1 H1 f1 b1 va q1 => hb M mo J0 H0 Pr s1 σ J1 H1 f1 _ e q1 he _ fun y b s2 J2 H2 f2 b2 vb q2 => by
    obtain ⟨dx, q3, ax⟩ := rdq_use f2 (va.sub b2) q2
    obtain ⟨dy, ⟨i, j, rfl, rfl, ok, q4⟩, ay⟩ := rdq_use f2 vb q3
    refine ⟨i, j, dq_int ax, dq_int ay, ok, fun p hp => ?_⟩
    have t := f2.wf.new (o := .lst (rgV i j)) hp
    exact k _ (.d _) s2 _ _ (f2.step t) ((b1.trans b2).trans t.jj) (.lst upd_same (das_rgV i j)) q4
theorem de_listRg1 (hK : X.K = K) (hc : X.calm = true) (hm : X.mg "list" = none) (hm2 : X.mg "range" = none) (A : DE K er W O X a ta wa) (hg : Gl X "list" := by rfl) (hg2 : Gl X "range" := by rfl) (na : starEach [a] X.env = (false, eval a X.env) :: starEach [] X.env := by rfl) (na2 : starEach [.Call (.Name "range" p2) [a] [] pos'] X.env = (false, eval (.Call (.Name "range" p2) [a] [] pos') X.env) :: starEach [] X.env := by rfl) :
    DE K er W O X (.Call (.Name "list" p) [.Call (.Name "range" p2) [a] [] pos'] [] pos) (tLstRg (tRg1 ta)) (wRg1 .list wa) := ⟨pe_listRg hc hg hm (prg_1 hg2 hm2 A.1 na) na2, se_lstRg1 A.2⟩
theorem de_tupleRg1 (hK : X.K = K) (hc : X.calm = true) (hm : X.mg "tuple" = none) (hm2 : X.mg "range" = none) (A : DE K er W O X a ta wa) (hg : Gl X "tuple" := by rfl) (hg2 : Gl X "range" := by rfl) (na : starEach [a] X.env = (false, eval a X.env) :: starEach [] X.env := by rfl) (na2 : starEach [.Call (.Name "range" p2) [a] [] pos'] X.env = (false, eval (.Call (.Name "range" p2) [a] [] pos') X.env) :: starEach [] X.env := by rfl) :
    DE K er W O X (.Call (.Name "tuple" p) [.Call (.Name "range" p2) [a] [] pos'] [] pos) (tTupRg (tRg1 ta)) (wRg1 .tuple wa) := ⟨pe_tupRg hc hg hm (prg_1 hg2 hm2 A.1 na) na2, se_tupRg1 A.2⟩
theorem de_listRg2 (hK : X.K = K) (hc : X.calm = true) (hm : X.mg "list" = none) (hm2 : X.mg "range" = none) (A : DE K er W O X a ta wa) (B : DE K er W O X b tb wb) (hg : Gl X "list" := by rfl) (hg2 : Gl X "range" := by rfl) (na : starEach [a, b] X.env = (false, eval a X.env) :: starEach [b] X.env := by rfl)
    (nb : starEach [b] X.env = (false, eval b X.env) :: starEach [] X.env := by rfl) (hp : (backTo pos' (starEach [b] X.env)).any (·.1) = false := by rfl) (na2 : starEach [.Call (.Name "range" p2) [a, b] [] pos'] X.env = (false, eval (.Call (.Name "range" p2) [a, b] [] pos') X.env) :: starEach [] X.env := by rfl) :
    DE K er W O X (.Call (.Name "list" p) [.Call (.Name "range" p2) [a, b] [] pos'] [] pos) (tLstRg (tRg2 ta tb)) (wRg2 .list wa wb) := ⟨pe_listRg hc hg hm (prg_2 hg2 hm2 A.1 B.1 na nb hp) na2, se_lstRg2 A.2 B.2⟩
/-! enumerate of a list, zip -/
def wiEnumX (wa : WE) : WI := wiEnum (waCons wa waNil)
theorem di_enumX {elts : List Expr} {kk : Nat} (hK : X.K = K) (hm : X.mg "enumerate" = none) (A : DE K er W O X a ta wa) (hg : Gl X "enumerate" := by rfl) (hs : starEach [a] X.env = [(false, eval a X.env)] := by rfl) :
    DI K er W O X (.Tuple elts kk tpos) (.Call (.Name "enumerate" p) [a] [] pos) (iEnum K (tCons ta tNil)) (wiEnumX wa) := by
  subst hK
  exact ⟨pi_enum hg hm (pa_cons A.1 pa_nil hs) hs, si_enum (sa_cons A.2 sa_nil)⟩
/-! statements -/
variable {iter elt : Expr} {ifs : List Expr} {scope : Scope} {own : List (Str × Nat)} {wi : TI} {ww : WI} {g : TG} {wg : WG} {tt : TT} {wt : WT} {y : Str} {py spos : Pos}
theorem ds_setLc (hc : X.calm = true) (hN : X.N.Nodup) (hy : X.N[i]? = some y) (hyl : X.env.scope.names.lookup y = some .local) (hsw : swapsWith (.ListComp elt [⟨tg, iter, ifs, 0⟩] scope pos) (some (.Name y py)) spos.line X.env = pure true)
    (hi : DI K er W O X tg iter wi ww) (ok : BlkOk X.N X.env.scope scope own) (tin : Tin (own.map (·.2)) g)
    (hg : ∀ (s : Shared) (H : Hp) (C : Addr) (cl : List (Str × Addr)) (fp : List Addr), DG K (X.blk s H scope (compEnvC scope cl C X.env) fp) tg g wg) (ht : ∀ (s : Shared) (H : Hp) (C : Addr) (cl : List (Str × Addr)) (fp : List Addr), DTs K er W0 O (X.blk s H scope (compEnvC scope cl C X.env) fp) ifs tt wt)
    (he : ∀ (s : Shared) (H : Hp) (C : Addr) (cl : List (Str × Addr)) (fp : List Addr), DE K er W0 O (X.blk s H scope (compEnvC scope cl C X.env) fp) elt te we) (hs : ∀ x, foldedSetIterable iter X.env x = pure x := by intro _; rfl) :
    DS K er W O X (.Assign [.Name y py] (.ListComp elt [⟨tg, iter, ifs, 0⟩] scope pos) spos) (tAsg (tLc wi g tt te (own.map (·.2))) (gName i)) (wSet i (wLc ww wg wt we (own.map (·.2)))) :=
  ⟨ps_setLc hc hN hy hyl hsw hi.1 ok (fun s H C cl fp => (hg s H C cl fp).1) (fun s H C cl fp => (ht s H C cl fp).1) (fun s H C cl fp => (he s H C cl fp).1) hs,
    ss_set (se_lc hi.2 (hg {} (fun _ => none) 0 [] []).2 tin (ht {} (fun _ => none) 0 [] []).2 (he {} (fun _ => none) 0 [] []).2)⟩
theorem ds_newLc (hc : X.calm = true) (hN : X.N.Nodup) (hy : X.N[i]? = some y) (hyl : X.env.scope.names.lookup y = some .local) (hsw : swapsWith (.ListComp elt [⟨tg, iter, ifs, 0⟩] scope pos) (some (.Name y py)) spos.line X.env = pure true)
    (hi : DI K er W O X tg iter wi ww) (ok : BlkOk X.N X.env.scope scope own) (tin : Tin (own.map (·.2)) g)
    (hg : ∀ (s : Shared) (H : Hp) (C : Addr) (cl : List (Str × Addr)) (fp : List Addr), DG K (X.blk s H scope (compEnvC scope cl C X.env) fp) tg g wg) (ht : ∀ (s : Shared) (H : Hp) (C : Addr) (cl : List (Str × Addr)) (fp : List Addr), DTs K er W0 O (X.blk s H scope (compEnvC scope cl C X.env) fp) ifs tt wt)
    (he : ∀ (s : Shared) (H : Hp) (C : Addr) (cl : List (Str × Addr)) (fp : List Addr), DE K er W0 O (X.blk s H scope (compEnvC scope cl C X.env) fp) elt te we) (hs : ∀ x, foldedSetIterable iter X.env x = pure x := by intro _; rfl) :
    DS K er W O X (.Assign [.Name y py] (.ListComp elt [⟨tg, iter, ifs, 0⟩] scope pos) spos) (tAsg (tLc wi g tt te (own.map (·.2))) (gName i)) (wNewLc i ww wg wt we (own.map (·.2))) :=
  ⟨ps_setLc hc hN hy hyl hsw hi.1 ok (fun s H C cl fp => (hg s H C cl fp).1) (fun s H C cl fp => (ht s H C cl fp).1) (fun s H C cl fp => (he s H C cl fp).1) hs,
    ss_newLc hi.2 (hg {} (fun _ => none) 0 [] []).2 tin (ht {} (fun _ => none) 0 [] []).2 (he {} (fun _ => none) 0 [] []).2⟩
theorem ds_augD {op : Operator} {ti : TIp} {gg : G2} (hN : X.N.Nodup) (hi : X.N[i]? = some x) (hx : Loc X.env.scope x) (ho : PIp X op ti) (o : OpS K ti gg) (A : DE K er W O X e te we) (hf : X.fn x = true ∨ X.env.scope.names.lookup x = some .local := by first | exact .inl rfl | exact .inr rfl | assumption) :
    DS K er W O X (.AugAssign (.Name x pos') op e pos) (tAug i te ti) (wAug i gg we) := ⟨ps_aug hN hi hx A.1 ho hf, ss_aug o A.2⟩
theorem call_strX : CallR X (.type "str") rStrX := or_cb call_str_int SkE.call_str_str
end
end DW

/-! The steps over data. -/
namespace DW
open PySem PySem.Spec
open PyProof.Rows L2 DL
theorem startS_0 {n : Nat} : startS n [] = List.replicate n none := by unfold startS; simp
/-- what is told of an int comparison, of texts -/
theorem eqv_int (i j : Int) : PyData.eqv (.int i) (.int j) = decide (i = j) := by
  by_cases h : i = j
  · subst h; simp [PyData.eqv]
  · simp [PyData.eqv, h]
theorem sh_intT (i : Int) : SeqAt.shaped (.int i) = true := rfl
/-! loops, shut until the invariant is known -/
def LoopF (wg : WG) (wb : WS) (ds : List PyData) (s1 : Sl) (E : EW) : Prop := ∃ I : Nat → Sl → Prop, I 0 s1 ∧ (∀ i d s2, ds[i]? = some d → I i s2 → wg d s2 fun s3 => wb s3 { E with nx := I (i + 1), ct := I (i + 1), bk := E.nx }) ∧ ∀ s2, I ds.length s2 → E.nx s2
theorem wFor_eq {ww : WI} {wg : WG} {wb : WS} {s : Sl} {E : EW} : wFor ww wg wb s E = ww s (fun ds s1 => LoopF wg wb ds s1 E) E.er := rfl
def LoopC (wg : WG) (wt : WT) (we : WE) (vs : List Nat) (ds : List PyData) (s1 : Sl) (Q : List PyData → Sl → Prop) : Prop := ∃ I : Nat → List PyData → Sl → Prop, I 0 [] (wipeS s1 vs) ∧
  (∀ i d acc s2, ds[i]? = some d → I i acc s2 → wg d (wipeS s2 vs) fun s3 => wt s3 (fun b s4 => if b = true then we s4 (fun r s5 => frz r s5 fun x s6 => I (i + 1) (acc ++ [x]) (wipeS s6 vs)) nE else I (i + 1) acc (wipeS s4 vs)) nE) ∧
  ∀ acc s2, I ds.length acc s2 → Q acc (wipeS s2 vs)
theorem wLc_eq {ww : WI} {wg : WG} {wt : WT} {we : WE} {vs : List Nat} {s : Sl} {Q : EV → Sl → Prop} {e : EK} : wLc ww wg wt we vs s Q e = ww s (fun ds s1 => ds.length < sizeLine ∧ LoopC wg wt we vs ds s1 fun acc s2 => Q (.d (.list acc)) s2) e := rfl
theorem wNewLc_eq {k : Nat} {ww : WI} {wg : WG} {wt : WT} {we : WE} {vs : List Nat} {s : Sl} {E : EW} : wNewLc k ww wg wt we vs s E = ww s (fun ds s1 => ds.length < sizeLine ∧ LoopC wg wt we vs ds s1 fun acc s2 => E.nx (s2.set k (some (.own acc)))) E.er := rfl
theorem Kt_i {w : WS} {E : EW} {s : Sl} (h : w s E) : Kt w E s := h
theorem one_ord (c : Nat) : (⟨#[c]⟩ : Str).cps.getD 0 0 = c := rfl
theorem one_len (c : Nat) : (⟨#[c]⟩ : Str).length = 1 := rfl
end DW

/-! A range up to 2^63. -/
namespace DW
open PySem PySem.Spec
open PyProof.Rows L2 DL
theorem small_63 {b : Int} (h : 0 ≤ b) (h' : b < 2 ^ 63) : Builtin.Range.small 0 b 1 = true := by
  unfold Builtin.Range.small
  rw [rangeSize_one]
  have p : (2 : Int) ^ 63 = 9223372036854775808 := by decide
  rw [p] at h'
  simp only [Builtin.Range.rangeFitsLong, Bool.and_eq_true, Bool.or_eq_true, decide_eq_true_eq, beq_iff_eq, p]
  by_cases c : (0 : Int) < b
  · rw [if_pos c]; simp; omega
  · rw [if_neg c]; simp; omega
def iRngB (ta : TA) : TI := fun σ H R => ta σ H fun vs H1 => ∃ j : Int, vs = [.int j] ∧ (0 ≤ j ∧ j < 2 ^ 63) ∧ R (Itr 0 j.toNat) H1
section
variable {X : Cx} {tg : Expr}
theorem pi_rngB {a : Expr} {ta : TA} {p pos : Pos} (hg : Gl X "range") (hm : X.mg "range" = none) (ha : PA X [a] ta) (hs : starEach [a] X.env = [(false, eval a X.env)] := by rfl) : PI X tg (.Call (.Name "range" p) [a] [] pos) (iRngB ta) := by
  refine ⟨fun pins s σ H R I h => Call_ (ld_blt I hg hm boot_range (PyProof.Rows.callWith_type1 (thn (ha.run pos pins s σ H _ I h) fun us s1 ⟨vs, G, I1, rv, j, e, ⟨j0, j1⟩, q⟩ => ?_) hs rfl))⟩
  subst e
  obtain ⟨u, rfl, t, rfl⟩ := vals1 rv
  refine call_range_1 ?_
  refine wpAny_pyIter_range (IsRange.new ..) (small_63 j0 j1) ?_
  generalize eh : s1.heap.push { cls := .type "range", data := .fields #[.int 0 s1.toks, .int j t, .int 1 (s1.toks + 1)] } = h1
  have I2 : Inv X pins σ G { s1 with heap := h1, toks := s1.toks + 1 + 1 } := I1.kept fun b o e => by rw [← eh]; exact Heap.get?_push_of_some _ e
  refine ⟨h1.objs.size, [h1.objs.size], _, _, G, rfl, I2.kept (t' := s1.toks + 1 + 1) fun b o e => Heap.get?_push_of_some _ e, turn_range _ 0 j.toNat, ?_, fun b hb => ?_, q⟩
  · show IsRangeIter _ _ ((0 : Int) + ((0 : Nat) : Int) * 1) (((j.toNat : Nat) : Int) - ((0 : Nat) : Int)) 1
    have e2 : ((j.toNat : Nat) : Int) - ((0 : Nat) : Int) = Builtin.Range.rangeSize 0 j 1 := by rw [rangeSize_one]; split <;> omega
    rw [e2]
    exact Heap.get?_push_size _ rfl
  · rw [List.mem_singleton.mp hb]
    exact I2.fpOk (Nat.le_refl _) (I2.hok.fresh (Nat.le_refl _))
end
def wiRngB (wl : WA) (s : Sl) (Q : List PyData → Sl → Prop) (e : EK) : Prop := wl s (fun xs s1 => match xs with
  | [.int j] => (0 ≤ j ∧ j < 2 ^ 63) ∧ Q (rngD 0 j) s1
  | _ => False) e
section
variable {K : PySem.W.Frag} {er : Ers} {W : WX} {O : Md → Prop} {t : TA} {wl : WA} {X : Cx} {tg a : Expr} {p pos : Pos}
theorem si_rngB (h : SA K er W O t wl) : SI K er W O (iRngB t) (wiRngB wl) := fun M mo J0 H0 Pr s σ J H f Q e q he R k =>
  h M mo J0 H0 Pr s σ J H f _ e q he _ fun vs ds s1 J1 H1 f1 b1 a1 q1 => by
    split at q1
    · rename_i j
      obtain ⟨u, rfl, a⟩ := das_one a1
      refine ⟨j, by rw [da_int a], q1.1, k _ _ s1 J1 H1 f1 b1 ⟨fun i G hi _ => ?_, fun G _ => ?_, fun i G x G' d hd' _ y => ?_⟩ q1.2⟩
      · rw [rngD_len] at hi
        show i < j.toNat
        omega
      · show j.toNat ≤ _
        rw [rngD_len]; omega
      · obtain ⟨e1, e2⟩ := y
        obtain ⟨e3, _⟩ := rngD_at hd'
        rw [e3, e2]
        exact .inl ⟨e1, .int _⟩
    · exact q1.elim
theorem di_rngB (hg : Gl X "range") (hm : X.mg "range" = none) (A : DA K er W O X [a] t wl) (hs : starEach [a] X.env = [(false, eval a X.env)] := by rfl) : DI K er W O X tg (.Call (.Name "range" p) [a] [] pos) (iRngB t) (wiRngB wl) := ⟨pi_rngB hg hm A.1 hs, si_rngB A.2⟩
end
end DW

/-! extend by a tuple. -/
namespace DW
open PySem PySem.Spec
open PyProof.Rows L2 DL
theorem ext_tup (l : Addr) (xs : Array Value) (n : Nat) (b : Addr) (ys : Array Value) (m : Nat) (dd : Option Addr) (sl : Array (Option Value)) (h0 : ¬(!xs.isEmpty && Builtin.List.listTooLong (xs.size + ys.size)) = true) (h1 : xs.size ≤ sizeLine) (h2 : xs.size + ys.size ≤ sizeLine + 1) :
    Meets (Builtin.«list.extend» ⟨[.ref l, .ref b], []⟩) (fun _ R s => s.heap.get? l = some { cls := .type "list", dict := none, data := .seq xs n, slots := #[] } ∧ s.heap.get? b = some { cls := .type "tuple", dict := dd, data := .seq ys m, slots := sl } ∧ R (.ok (.ret Value.none)) { s with heap := s.heap.update l (Obj.mapSeq fun x => x ++ ys), toks := s.toks }) :=
  .of_wp fun prog w A R s h => by
    obtain ⟨hp, g, d, tk, os⟩ := s
    obtain ⟨hl, hb, h⟩ := h
    have f1 := AutoSeq1.idx_int; have f2 := AutoSeq1.sub_tuple_tuple; have f3 := AutoSeq1.sub_list_list; have f4 := AutoSeq1.sub_tuple_list; have f5 := AutoSeq1.sub_list_tuple
    have hz' : (xs ++ ys).size ≤ sizeLine + 1 := by rw [Array.size_append]; exact h2
    wp_walk using (wpAny_updateSeq hl rfl (hz := h1) (_hz' := hz')), AutoSeq1.wpAny_loadPart' hl, AutoSeq1.wpAny_loadPart' hb
    exact ⟨_, rfl, h⟩
def rExtA (K : PySem.W.Frag) : V → List V → Hp → VK → Prop := fun x vs H Q => ∃ l b xs zs, x = .ref l ∧ vs = [.ref b] ∧ H l = some (.lst xs) ∧ (H b = some (.lst zs) ∨ SqT K H b zs) ∧ xs.length + zs.length ≤ sizeLine ∧ Q .non (upd H l (.lst (xs ++ zs)))
theorem mt_extA {X : Cx} : MtR X "list.extend" (rExtA X.K) := by
  intro pins s σ H x vs v us Q I rx rv h
  obtain ⟨l, b, xs, zs, rfl, rfl, hH, hB | hB, hz, q⟩ := h
  · exact mt_extend pins s σ H _ _ v us Q I rx rv ⟨l, b, xs, zs, rfl, rfl, hH, hB, hz, q⟩
  · cases rx
    obtain ⟨u, rfl, ru⟩ := rv.one
    cases ru
    obtain ⟨z, its, n, r, hl, e⟩ := I.lstM hH
    obtain ⟨its2, r2, ⟨o, e2, hc, m, hd⟩, _⟩ := I.tuple hB
    have hl2 := r2.length
    obtain ⟨cls, dd, data, sl⟩ := o
    simp only at hc hd
    subst hc hd
    have hsz : its.toArray.size + its2.toArray.size ≤ sizeLine := by rw [List.size_toArray, List.size_toArray]; omega
    have hlong : ¬ (!its.toArray.isEmpty && Builtin.List.listTooLong (its.toArray.size + its2.toArray.size)) = true := by
      rw [notLongL hsz, Bool.and_false]
      exact Bool.false_ne_true
    refine call_meets F.slot_list_extend ⟨_, e, rfl⟩ F.entry_list_extend (F.args_list_extend_2 _ _)
      (ext_tup l its.toArray n b its2.toArray m dd sl hlong (by rw [List.size_toArray]; omega) (by omega)) ⟨e, e2, ?_⟩
    refine ⟨.non, _, I.lset (its' := its ++ its2) hH e (by simp) (r.append r2) (by rw [List.length_append]; omega), rfl, q⟩
/-- x.extend(e), e a list or a tuple -/
def wExtA (k : Nat) (we : WE) (s : Sl) (E : EW) : Prop := (∃ xs, s[k]? = some (some (.own xs))) ∧ we s (fun r s1 => rdq r s1 fun x => match s1[k]? with
  | some (some (.own xs)) => (match x with
    | .list ys => xs.length + ys.length ≤ sizeLine ∧ E.nx (s1.set k (some (.own (xs ++ ys))))
    | .tuple ys => xs.length + ys.length ≤ sizeLine ∧ E.nx (s1.set k (some (.own (xs ++ ys))))
    | _ => False)
  | _ => False) E.er
section
variable {K : PySem.W.Frag} {er : Ers} {W : WX} {O : Md → Prop} {te : TE} {we : WE} {X : Cx} {e : Expr} {st : Stmt} {i : Nat}
theorem ss_extA {k : Nat} (h : SE K er W O te we) : SS K er W O (tDrop (tBM K "list" (rExtA K) (tVar k) (tCons te tNil))) (wExtA k we) := fun M mo J0 H0 Pr s σ J H f E D ⟨⟨xs, hk⟩, q⟩ kk he => by
  obtain ⟨p, vs, hp, hH, _⟩ := f.own hk
  refine ⟨.ref p, hp, .inl ⟨rfl, vs, .of hH⟩, h M mo J0 H0 Pr s σ J H f _ _ q he _ fun v r s1 J1 H1 f1 b1 va q1 => ?_⟩
  obtain ⟨x, q2, ax⟩ := rdq_use f1 va q1
  split at q2
  · rename_i xs e
    obtain ⟨p', us, hp', hH', a', _⟩ := f1.own e
    rw [hp] at hp'
    cases hp'
    split at q2
    · obtain ⟨b, ws, rfl, hl, hd⟩ := dq_lst f1.wf.jh ax
      exact ⟨p, b, us, ws, rfl, rfl, hH', .inl hl, by rw [das_len a', das_len hd]; exact q2.1, kk.nx _ _ _ _ (f1.write e hp (das_app a' hd)) b1 q2.2⟩
    · obtain ⟨b, ws, rfl, hl, hd, _⟩ := dq_tup f1.wf.jh ax
      exact ⟨p, b, us, ws, rfl, rfl, hH', .inr hl, by rw [das_len a', das_len hd]; exact q2.1, kk.nx _ _ _ _ (f1.write e hp (das_app a' hd)) b1 q2.2⟩
    · exact q2.elim
  · exact q2.elim
theorem ds_extA (hK : X.K = K) (h : ∀ {tt : TA}, PA X [e] tt → PS X st (tDrop (tBM X.K "list" (rExtA X.K) (tVar i) tt))) (A : DE K er W O X e te we) (hs : starEach [e] X.env = (false, eval e X.env) :: starEach [] X.env := by rfl) : DS K er W O X st (tDrop (tBM K "list" (rExtA K) (tVar i) (tCons te tNil))) (wExtA i we) := by
  subst hK
  exact ⟨h (pa_cons A.1 pa_nil hs), ss_extA A.2⟩
end
end DW

/-! Texts compared. -/
namespace DW
open PySem PySem.Spec
open PyProof.Rows L2 DL
def gEqS : G2
  | .str a, .str b, k => k (.bool (decide (a = b)))
  | _, _, _ => False
def gNeS : G2
  | .str a, .str b, k => k (.bool (!decide (a = b)))
  | _, _, _ => False
section
variable {K : PySem.W.Frag}
theorem dec_strV (a b : Str) : decide (V.str a = V.str b) = decide (a = b) := by
  by_cases h : a = b
  · subst h; simp
  · simp [h]
theorem os_eqS : OpS K rEq gEqS := fun M J H x y dx dy w ax ay P hg Q q => by
  unfold gEqS at hg; split at hg
  · rw [dq_str ax, dq_str ay]
    exact ⟨rfl, by rw [dec_strV]; exact q _ _ J H w.tr hg (.bl _)⟩
  · exact hg.elim
theorem os_neS : OpS K rNe gNeS := fun M J H x y dx dy w ax ay P hg Q q => by
  unfold gNeS at hg; split at hg
  · rw [dq_str ax, dq_str ay]
    exact ⟨rfl, by rw [dec_strV]; exact q _ _ J H w.tr hg (.bl _)⟩
  · exact hg.elim
end
end DW

/-! A lambda heard, where what is around it keeps no repr. -/
namespace DW
open PySem PySem.Spec
open PyProof.Rows L2 DL LamX
section
variable {X : Cx} {s : Shared} {σ : L2.St} {H : Hp} {pins : List (Addr × Obj)}
theorem actG {CXg : CXT} {Eg : XK} {Ng : List Str} {qg : Str} {sg : Scope} {g f c' : Addr} {cdg pm ctv : Value} {params : Arguments} {body : Expr} {scope : Scope} {k i : Nat} {a : Str} {pn : List (Addr × Obj)} {xe : Value → Shared → Prop} {W : WX} {E : XK} {tb : TE} {p1 p2 : Pos}
    (I : Inv X pins σ H s) (L : LamS X.env.scope scope) (hf : s.heap.get? f = some (PySem.W.kla_obj "<lambda>" (X.env.qual ++ "<lambda>") params body scope (cloFrom X.env.cells scope.names []) pm c' ctv)) (hfn : H f = none) (hfr : f ∉ frs X.stack)
    (hbind : bindArgs (PySem.W.kla_fn "<lambda>" (X.env.qual ++ "<lambda>") params body scope (cloFrom X.env.cells scope.names []) pm (.ref c') ctv) ⟨[], []⟩ = pure [])
    (tk : Takes ((cxOf CXg X.prog X.w X.K X.mg X.base Ng qg sg g cdg X.A X.stack s H Eg).tr pn xe) W) (hW : ∀ cls d σ' H', E cls d H' → W cls d σ' H') (hr : Room (k + 1) (X.A.deeper (envOfC qg sg s.heap.objs.size g cdg)))
    (hbody : ∀ (outer : List Env) (s' : Shared) (H' : Hp), Room k ((X.A.deeper (envOfC qg sg s.heap.objs.size g cdg)).deeper (lamEnv X scope s'.heap.objs.size f c')) → PE (lamCx X (X.A.deeper (envOfC qg sg s.heap.objs.size g cdg)) outer s' H' E scope f c') body tb)
    (hN : Ng[i]? = some a) (hv : Vis sg a) (hd : (a == ("__debug__" : Str)) = false := by decide) (hcd : (a == ("__classdict__" : Str)) = false := by decide) :
    PE ((cxOf CXg X.prog X.w X.K X.mg X.base Ng qg sg g cdg X.A X.stack s H Eg).tr pn xe) (.Call (.Name a p1) [] [] p2)
      (fun σZ HZ Q => σZ[i]? = some (some (.ref f)) ∧ HZ c' = some (CodeO c' (X.env.qual ++ "<lambda>")) ∧ tb σ HZ Q) := by
  constructor
  intro pinsZ sZ σZ HZ Q IZ ⟨hs, hc, ht⟩
  have name := (pe_var (pos := p1) (i := i) hN hv hd hcd).run pinsZ sZ σZ HZ (fun v H1 => v = .ref f ∧ H1 = HZ) IZ ⟨.ref f, hs, rfl, rfl⟩
  refine wpAny_Call_Name_kw (thn name fun u s1 h1 => ?_)
  obtain ⟨v, H1, I1, r1, rfl, rfl⟩ := h1
  cases (show u = Value.ref f from r1)
  have fo := I1.base.keep f _ hf hfn hfr (fun z => nomatch (show f ∈ ([] : List Addr) from z))
  obtain ⟨⟨oc, vs, t, hoc, hdc, hvc⟩, _, _⟩ := I1.hok c' _ hc
  have rc : codeAny (model X.prog X.w) (X.A.deeper (envOfC qg sg s.heap.objs.size g cdg)) (.call (.ref f) ⟨[], []⟩) (CR (L2.CX X.prog X.w) (envOfC qg sg s.heap.objs.size g cdg :: X.stack) X.prog X.w H1 s1 Q E) s1 := by
    refine PySem.W.kla_callFunE hr.depth fo rfl L.co L.gen rfl ⟨c', oc, vs, t, rfl, hoc, hdc, hvc⟩ ?_
    rw [hbind]
    refine wpAny_pure (wpAny_newFunctionEnv (fun y hy => (L.own y hy).2) (fun y hy => absurd hy (by simp)) (fun h₁ hns hsb => ⟨I1.nolimit.fresh _ hsb, ?_⟩) L.kind)
    show codeAny _ _ (.expr body (lamEnv X scope s1.heap.objs.size f c')) _ _
    have J := lam_start2 (A := X.A.deeper (envOfC qg sg s.heap.objs.size g cdg)) (outer := envOfC qg sg s.heap.objs.size g cdg :: X.stack) (E := E) (f := f) (c' := c') (tk := s1.toks + ([] : List (Str × Value)).length) I L I1.env0 hr.hd I1.base hns fun b o e => hsb.extBut b o (Nat.ne_of_lt (Heap.lt_size e)) (Heap.get?_push_of_some _ e)
    exact PySem.W.kla_codeExpr (wpAny_mono ((hbody _ s1 H1 (hr.deeper _)).run [] _ _ H1 Q J ht) (fun v s' ⟨w', H', J', rv, q⟩ => ⟨w', H', J'.os, J'.bare, J'.base, J'.hok, rv, q⟩) fun e s' hq => hq)
  refine PySem.W.callWith_F0 ⟨_, _, _, _, fo⟩ (wpAny_call (codeAny_mono rc fun r s' hq => ?_))
  cases r with
  | error e => exact passes_call tk hW pinsZ σZ H1 s1 e s' I1 hq
  | ok fl => cases fl <;> first | exact I1.after hq | exact False.elim hq
theorem lamcallG {T : List (Addr × Str)} {TT : (XK → Hp → VK → Prop) → Hp → VK → Prop} {x a : Str} {k : Nat} {params : Arguments} {body : Expr} {scope : Scope} {t : XK → TE} {p lpos pos : Pos} (C : Hears X T k x a TT) (hA : X.A.guards = some []) (hr : Room (k + 2) X.A)
    (hbody : ∀ (A : Around) (outer : List Env) (s : Shared) (H : Hp) (E : XK) (f c' : Addr), A.guards = some [] → Room k (A.deeper (lamEnv X scope s.heap.objs.size f c')) → PE (lamCx X A outer s H E scope f c') body (t E))
    (hg : Gl X x := by rfl) (L : LamX.lamSB X.env.scope scope = true := by decide +kernel) (hdef : defaultsOf params X.env = ([], []) := by rfl)
    (hbind : ∀ (q : Str) (cl : List (Str × Addr)) (pm cv ctv : Value), bindArgs (PySem.W.kla_fn "<lambda>" q params body scope cl pm cv ctv) ⟨[], []⟩ = pure [] := by intros; rfl)
    (hdb : (x == ("__debug__" : Str)) = false := by decide) (hd : (a == ("__debug__" : Str)) = false := by decide) (hcd : (a == ("__classdict__" : Str)) = false := by decide) : PE X (.Call (.Name x p) [.Lambda params body scope lpos] [] pos) (LamX.tLam T TT t) := by
  obtain ⟨g, c, P, pg, bg, sg, dV, kV, doc, pm, cdv, ct, oc, an, od, osl, Ng, hm, hk, lk, hcg, hb, Sg, hNg, hva, hG, TB, hcode, hmT, hu⟩ := C.has
  have L := LamX.lamS_by L
  constructor
  intro pins s σ H Q I ⟨hT, h⟩
  refine wpAny_Call_Name_kw (ld_glob I hg hm (PySem.W.callWith_K (h₀ := X.base) I.ok.mod.kin hk ?_ (by rfl) (by rfl)) hdb)
  show wpAny _ _ (spliced ((false, eval (.Lambda params body scope lpos) X.env) :: backTo pos (starEach [] X.env))) _ _ s
  refine Calls.spliced_cons (lam_make2 I TB hcode hmT hu hT hdef (L.has I.ok) fun f c' pm' ctv H1 s' I1 eN T1 hf hfn hfr hco => ?_)
  refine Calls.spliced_nil ⟨I1.kIn, ?_⟩
  have rc : codeAny (model X.prog X.w) X.A (.call (.ref g) ⟨[.ref f], []⟩) (CR C8.CX0 X.stack X.prog X.w H1 s' Q C8.E0) s' := by
    refine run_ofS (N := Ng) (ps := [a]) (us := [.ref f]) (vs := [.ref f]) lk hcg Sg hr I1.env0 (hb s' [.ref f] I1.kIn rfl) (.cons rfl .nil) rfl fun hr' => ?_
    obtain ⟨t', ht', hq'⟩ := hG f c' s' H1 Q (fun E H' Q' => t E σ H' Q') (fun W pn xe E p1 p2 tk hW => actG (i := 0) I1 L hf hfn hfr (hbind _ _ _ _ _) tk hW hr' (fun outer s H hr2 => hbody _ outer s H E f c' hA hr2) hNg hva hd hcd) hco (h H1 eN T1)
    exact ⟨t', ht'.nox, hq'⟩
  refine wpAny_call (codeAny_mono rc fun r s2 hq => ?_)
  cases r with
  | error e => exact (show False from hq).elim
  | ok fl => cases fl <;> first | exact I1.after hq | exact False.elim hq
end
end DW

/-! A lambda heard, told in data. -/
namespace DW
open PySem PySem.Spec
open PyProof.Rows L2 DL LamX
/-- what a def makes of a lambda that it calls in a try: rows: the class caught, the text told, the field told -/
def THear (rows : List (Addr × Str × Str)) : (XK → Hp → VK → Prop) → Hp → VK → Prop := fun tl H Q => ∃ Ech : XK,
  (∀ cls d H', Ech cls d H' → ∃ C s f, (C, s, f) ∈ rows ∧ cls = .ref C ∧ ∃ dx v, d = some dx ∧ H' dx = some (.xd [(f, v)]) ∧ ∀ l, H' l = none → Q (.ref l) (upd H' l (.lst [.str s, v, .bl true]))) ∧
  tl Ech H fun v H' => ([.str "told", v] : List V).length ≤ sizeLine ∧ ∀ l, H' l = none → Q (.ref l) (upd H' l (.lst [.str "told", v]))
def rowsOf (er : Ers) (rows : List (Str × Str)) : List (Addr × Str × Str) := rows.map fun r => (er.cl r.1, r.2, er.fl r.1)
def wHear (rows : List (Str × Str)) (pre : List AV → Prop) (post : List AV → PyData → Prop) (exc : List AV → Str → PyData → Prop) (wu : WU) (s : Sl) (Q : EV → Sl → Prop) (_ : EK) : Prop :=
  wu s (fun as s1 => pre as ∧ (∀ d, post as d → Q (.d (.list [.str "told", d])) s1) ∧ ∀ c x, exc as c x → ∃ z, (c, z) ∈ rows ∧ Q (.d (.list [.str z, x, .bool true])) s1) nE
section
variable {K : PySem.W.Frag} {er : Ers} {W : WX} {O O' : Md → Prop} {t : TA} {wu : WU} {T : List (Addr × Str)} {rows : List (Str × Str)} {pre : List AV → Prop} {post : List AV → PyData → Prop} {exc : List AV → Str → PyData → Prop}
theorem se_hear (hT : ∀ M, O M → HasTb M T) (hO : ∀ M, O M → O' M) (h : SU K er W0 O t wu) : SE K er W O (LamX.tLam T (THear (rowsOf er rows)) fun E => tCallS (spU K er O' pre post exc) (fun _ => E) t) (wHear rows pre post exc wu) := fun M mo J0 H0 Pr s σ J H f Q e q he Qv k => by
  have hb := hT M mo
  refine ⟨hb.tabs _ f.wf.inv, fun H2 ex t2 => ?_⟩
  have tx := tr_ext hb f.wf ex t2
  let Ech : XK := fun cls d H' => ∃ C z fl, (C, z, fl) ∈ rowsOf er rows ∧ cls = .ref C ∧ ∃ dx v, d = some dx ∧ H' dx = some (.xd [(fl, v)]) ∧ ∀ l, H' l = none → Qv (.ref l) (upd H' l (.lst [.str z, v, .bl true]))
  refine ⟨Ech, fun _ _ _ z => z, h M mo J0 H0 Pr s σ J H2 (f.step tx) _ nE q (fun c x s σ dx v J H _ z => z.elim) _ fun vs as s1 J1 H1 f1 b1 a1 ⟨hp, q1, q2⟩ => ?_⟩
  refine ⟨M, J1, as, hO M mo, f1.wf, a1, hp, fun v d J' H' tr pd a => ⟨by show 2 ≤ sizeLine; decide, fun l hl => ?_⟩, fun c x dx v J' H' tr pe hx a => ?_⟩
  · have t4 := (tr.wf f1.wf).new (o := .lst [.str "told", v]) hl
    exact k _ (.d _) s1 _ _ (f1.step (tr.trans t4)) (b1.trans (tr.trans t4).jj) (.lst upd_same (.cons (.str _) (.cons (t4.jj.da a) .nil))) (q1 d pd)
  · obtain ⟨z, hz, q3⟩ := q2 c x pe
    refine ⟨er.cl c, z, er.fl c, List.mem_map_of_mem (f := fun r : Str × Str => (er.cl r.1, r.2, er.fl r.1)) hz, rfl, dx, v, rfl, hx, fun l hl => ?_⟩
    have t4 := (tr.wf f1.wf).new (o := .lst [.str z, v, .bl true]) hl
    exact k _ (.d _) s1 _ _ (f1.step (tr.trans t4)) (b1.trans (tr.trans t4).jj) (.lst upd_same (.cons (.str _) (.cons (t4.jj.da a) (.cons (.bl _) .nil)))) q3
end
section
variable {K : PySem.W.Frag} {er : Ers} {W : WX} {O O' : Md → Prop} {t : TA} {wu : WU} {T : List (Addr × Str)} {rows : List (Str × Str)} {pre : List AV → Prop} {post : List AV → PyData → Prop} {exc : List AV → Str → PyData → Prop} {X : Cx} {x y a : Str} {k kh : Nat} {ps : List Str} {p p2 lpos pos pos2 : Pos} {e : Expr} {es : List Expr} {params : Arguments} {scope : Scope}
theorem de_hear (Hh : Hears X T kh x a (THear (rowsOf er rows))) (hA : X.A.guards = some []) (hr : Room (kh + 2) X.A) (hT : ∀ M, O M → HasTb M T) (C : Ca5 X.prog X.w X.K X.mg X.base (L2.CX X.prog X.w) k y ps (spU K er O' pre post exc)) (hk : k ≤ kh) (hO : ∀ M, O M → O' M)
    (A : ∀ (A' : Around) (outer : List Env) (s : Shared) (H : Hp) (E : XK) (f c' : Addr), A'.guards = some [] → Room kh (A'.deeper (lamEnv X scope s.heap.objs.size f c')) → DU K er W0 O (lamCx X A' outer s H E scope f c') (e :: es) t wu) (S : SU K er W0 O t wu)
    (hg2 : ∀ (A' : Around) (outer : List Env) (s : Shared) (H : Hp) (E : XK) (f c' : Addr), Gl (lamCx X A' outer s H E scope f c') y := by intros; rfl) (hdb2 : (y == ("__debug__" : Str)) = false := by decide)
    (he : ∀ (A' : Around) (outer : List Env) (s : Shared) (H : Hp) (E : XK) (f c' : Addr), starEach (e :: es) (lamCx X A' outer s H E scope f c').env = (false, eval e (lamCx X A' outer s H E scope f c').env) :: starEach es (lamCx X A' outer s H E scope f c').env := by intros; rfl)
    (hpl : ∀ (A' : Around) (outer : List Env) (s : Shared) (H : Hp) (E : XK) (f c' : Addr), (backTo pos2 (starEach es (lamCx X A' outer s H E scope f c').env)).any (·.1) = false := by intros; rfl)
    (hg : Gl X x := by rfl) (L : LamX.lamSB X.env.scope scope = true := by decide +kernel) (hdef : defaultsOf params X.env = ([], []) := by rfl)
    (hbind : ∀ (q : Str) (cl : List (Str × Addr)) (pm cv ctv : Value), bindArgs (PySem.W.kla_fn "<lambda>" q params (.Call (.Name y p2) (e :: es) [] pos2) scope cl pm cv ctv) ⟨[], []⟩ = pure [] := by intros; rfl)
    (hdb : (x == ("__debug__" : Str)) = false := by decide) (hd : (a == ("__debug__" : Str)) = false := by decide) (hcd : (a == ("__classdict__" : Str)) = false := by decide) :
    DE K er W O X (.Call (.Name x p) [.Lambda params (.Call (.Name y p2) (e :: es) [] pos2) scope lpos] [] pos) (LamX.tLam T (THear (rowsOf er rows)) fun E => tCallS (spU K er O' pre post exc) (fun _ => E) t) (wHear rows pre post exc wu) :=
  ⟨lamcallG Hh hA hr (fun A' outer s H E f c' hA' hr' => pe_callW (X := lamCx X A' outer s H E scope f c') (E := fun _ => E) C hA' (hr'.mono hk) (fun σ pins H s e s' I h => passLam pins σ H s e s' I h) (A A' outer s H E f c' hA' hr').1 (hg2 ..) hdb2 (he ..) (hpl ..)) hg L hdef hbind hdb hd hcd, se_hear hT hO S⟩
end
end DW

/-! A module's dict of defs; a call of what a name holds. -/
namespace DW
open PySem PySem.Spec
open PyProof.Rows L2 DL
def rNotKD (K : PySem.W.Frag) (d : Addr) : R2 := fun x y H Q => ∃ (z : Str) (r : Option Value), x = .str z ∧ y = .ref d ∧ PySem.W.nsIn K d z = some r ∧ Q (.bl (!r.isSome)) H
/-- e not in D, of a name that D has -/
def wNotKD (tab : List (Str × Addr)) (wa : WE) (s : Sl) (Q : EV → Sl → Prop) (e : EK) : Prop := wa s (fun a s1 => rdq a s1 fun x => ∃ z f, x = .str z ∧ (z, f) ∈ tab ∧ Q (.d (.bool false)) s1) e
/-- D[e] -/
def wIxKD (tab : List (Str × Addr)) (wa : WE) (s : Sl) (Q : EV → Sl → Prop) (e : EK) : Prop := wa s (fun a s1 => rdq a s1 fun x => ∃ z f, x = .str z ∧ (z, f) ∈ tab ∧ Q (.raw (.ref f)) s1) e
/-- what the defs of a dict promise -/
abbrev RdT := Addr → (List AV → Prop) → (List AV → PyData → Prop) → (List AV → Str → PyData → Prop) → Prop
def wCallV (i : Nat) (R : RdT) (wu : WU) (s : Sl) (Q : EV → Sl → Prop) (e : EK) : Prop := ∃ f pre post exc, s[i]? = some (some (.raw (.ref f))) ∧ R f pre post exc ∧ wu s (fun as s1 => pre as ∧ (∀ d, post as d → Q (.d d) s1) ∧ ∀ c x, exc as c x → e c x s1) e
def tCallVW (i : Nat) (S : Addr → Sp → Prop) (E : L2.St → XK) (t : TA) : TE := fun σ H Q => ∃ f sp, σ[i]? = some (some (.ref f)) ∧ S f sp ∧ t σ H fun vs H1 => sp vs H1 Q (E σ)
def SpR (K : PySem.W.Frag) (er : Ers) (O : Md → Prop) (R : RdT) (f : Addr) (sp : Sp) : Prop := ∃ pre post exc, R f pre post exc ∧ sp = spU K er O pre post exc
section
variable {K : PySem.W.Frag} {er : Ers} {W : WX} {O O' : Md → Prop} {ta : TE} {wa : WE} {t : TA} {wu : WU} {tab : List (Str × Addr)} {RD : Addr} {R : RdT} {i : Nat}
theorem se_notKD (hd : ∀ z f, (z, f) ∈ tab → PySem.W.nsIn K RD z = some (some (.ref f))) (ha : SE K er W O ta wa) : SE K er W O (tOp (rNotKD K RD) ta (tC (.ref RD))) (wNotKD tab wa) := fun M mo J0 H0 Pr s σ J H f Q e q he Qv k =>
  ha M mo J0 H0 Pr s σ J H f _ e q he _ fun x a s1 J1 H1 f1 b1 va q1 => by
    obtain ⟨dx, ⟨z, g, rfl, hm, q2⟩, ax⟩ := rdq_use f1 va q1
    exact ⟨z, _, dq_str ax, rfl, hd z g hm, k _ (.d (.bool false)) s1 J1 H1 f1 b1 (.bl false) q2⟩
theorem se_ixKD (hd : ∀ z f, (z, f) ∈ tab → PySem.W.nsIn K RD z = some (some (.ref f))) (ha : SE K er W O ta wa) : SE K er W O (tOp (DL.rIxD K RD) (tC (.ref RD)) ta) (wIxKD tab wa) := fun M mo J0 H0 Pr s σ J H f Q e q he Qv k =>
  ha M mo J0 H0 Pr s σ J H f _ e q he _ fun x a s1 J1 H1 f1 b1 va q1 => by
    obtain ⟨dx, ⟨z, g, rfl, hm, q2⟩, ax⟩ := rdq_use f1 va q1
    exact ⟨z, .ref g, .ref g, rfl, dq_str ax, hd z g hm, rfl, k _ (.raw (.ref g)) s1 J1 H1 f1 b1 rfl q2⟩
theorem se_callV (hO : ∀ M, O M → O' M) (h : SU K er W O t wu) : SE K er W O (tCallVW i (SpR K er O' R) (L2.WE W) t) (wCallV i R wu) := fun M mo J0 H0 Pr s σ J H f Q e ⟨g, pre, post, exc, hi, hR, q⟩ he Qv k => by
  obtain ⟨v, hv, a⟩ := f.at_ i _ hi
  cases (show v = V.ref g from a)
  exact ⟨g, _, hv, ⟨pre, post, exc, hR, rfl⟩, h M mo J0 H0 Pr s σ J H f _ e q he _ fun vs as s1 J1 H1 f1 b1 a1 ⟨hp, h1, h2⟩ => sp_use hO mo he f1 a1 hp h1 h2 fun v r s' J' H' f' b' => k v r s' J' H' f' (b1.trans b')⟩
end
section
variable {K : PySem.W.Frag} {er : Ers} {W : WX} {O O' : Md → Prop} {X : Cx} {a e : Expr} {es : List Expr} {ta : TE} {wa : WE} {t : TA} {wu : WU} {tab : List (Str × Addr)} {RD : Addr} {R : RdT} {i k : Nat} {x y : Str} {p p2 pos : Pos} {ds : Array DictEntry} {n : Nat}
theorem de_notKD (hK : X.K = K) (D : KDict X.K X.w RD ds n) (hd : ∀ z f, (z, f) ∈ tab → PySem.W.nsIn K RD z = some (some (.ref f))) (A : DE K er W O X a ta wa) (h : ∀ {tb : TE}, PE X a ta → PE X e (tOp (rNotKD X.K RD) ta (tC (.ref RD)))) : DE K er W O X e (tOp (rNotKD K RD) ta (tC (.ref RD))) (wNotKD tab wa) := by
  subst hK
  exact ⟨h (tb := ta) A.1, se_notKD hd A.2⟩
theorem de_ixKD (hK : X.K = K) (D : KDict X.K X.w RD ds n) (hm : X.mg x = some (.ref RD)) (hd : ∀ z f, (z, f) ∈ tab → PySem.W.nsIn K RD z = some (some (.ref f))) (A : DE K er W O X a ta wa) (hg : Gl X x := by rfl) (hdb : (x == ("__debug__" : Str)) = false := by decide) (hs : PlainIx a := by exact fun _ _ => rfl) :
    DE K er W O X (.Subscript (.Name x p) a pos) (tOp (DL.rIxD K RD) (tC (.ref RD)) ta) (wIxKD tab wa) := by
  subst hK
  exact ⟨pe_ix (ix_kd D) (pe_glob (v := .ref RD) hg hm rfl hdb) A.1 hs, se_ixKD hd A.2⟩
theorem callVW {CX : CXT} {S : Addr → Sp → Prop} {E : L2.St → XK} (A : ∀ f sp, S f sp → ∃ (fd : FuncData) (ps : List Str), FnG X.prog X.w X.K X.mg X.base CX k f fd ps sp ∧ PySem.W.keepIn X.K (.ref f) = true ∧ Binds X.K fd ps []) (hA : X.A.guards = some []) (hr : Room k X.A) (hx : ∀ σ, PassesAt CX X σ (E σ))
    (hN : X.N[i]? = some x) (hv : Vis X.env.scope x) (ha : PA X (e :: es) t) (hdb : (x == ("__debug__" : Str)) = false := by decide) (hcd : (x == ("__classdict__" : Str)) = false := by decide)
    (he : starEach (e :: es) X.env = (false, eval e X.env) :: starEach es X.env := by rfl) (hpl : (backTo pos (starEach es X.env)).any (·.1) = false := by rfl) : PE X (.Call (.Name x p) (e :: es) [] pos) (tCallVW i S E t) := by
  constructor
  intro pins s σ H Q I ⟨f, sp, hs, hS, ht⟩
  obtain ⟨fd, ps, F, hk, hb⟩ := A f sp hS
  refine wpAny_Call_Name_kw (thn ((pe_var (pos := p) (i := i) hN hv hdb hcd).run pins s σ H (fun v H1 => v = .ref f ∧ H1 = H) I ⟨.ref f, hs, rfl, rfl⟩) fun u s0 h0 => ?_)
  obtain ⟨v, H1, I0, r0, rfl, rfl⟩ := h0
  cases (show u = Value.ref f from r0)
  refine PySem.W.callWith_K (h₀ := X.base) I0.ok.mod.kin hk (thn (ha.run pos pins s0 σ H1 _ I0 ht) fun us s1 ⟨vs, H2, I1, r, q⟩ => ⟨I1.kIn, ?_⟩) he hpl
  have b := hb s1 us I1.kIn (by rw [List.append_nil]; exact r.length.symm.trans (F.siz _ _ _ _ q))
  rw [List.append_nil] at b
  exact go_w (ar := ⟨us, []⟩) F hA hr (hx σ) I1 b r q
theorem de_callV (A : ∀ f sp, SpR X.K er O' R f sp → ∃ (fd : FuncData) (ps : List Str), FnG X.prog X.w X.K X.mg X.base (L2.CX X.prog X.w) k f fd ps sp ∧ PySem.W.keepIn X.K (.ref f) = true ∧ Binds X.K fd ps []) (hK : X.K = K) (hA : X.A.guards = some []) (hr : Room k X.A) (hx : ∀ σ, PassesAt (L2.CX X.prog X.w) X σ (L2.WE W σ)) (hO : ∀ M, O M → O' M)
    (hN : X.N[i]? = some x) (hv : Vis X.env.scope x) (U : DU K er W O X (e :: es) t wu) (hdb : (x == ("__debug__" : Str)) = false := by decide) (hcd : (x == ("__classdict__" : Str)) = false := by decide)
    (he : starEach (e :: es) X.env = (false, eval e X.env) :: starEach es X.env := by rfl) (hpl : (backTo pos (starEach es X.env)).any (·.1) = false := by rfl) : DE K er W O X (.Call (.Name x p) (e :: es) [] pos) (tCallVW i (SpR K er O' R) (L2.WE W) t) (wCallV i R wu) := by
  subst hK
  exact ⟨callVW A hA hr hx hN hv U.1 hdb hcd he hpl, se_callV hO U.2⟩
end
end DW

namespace K04
open PySem PySem.Spec
open PyProof.Rows L2 DL DW
abbrev FnP (K : PySem.W.Frag) (x : Str) (st : Stmt) (f : Addr) (fd : FuncData) : Prop := FunD K x x (defArgs st) (defBody st) (defScope st) [] [] f fd
structure Fx (mg : Str → Option Value) : Prop where
  c_MOST_NUMBER_OCTETS : ∃ t, mg "MOST_NUMBER_OCTETS" = some (.int 9 t)
  c_MOST_KEY_SIGNS : ∃ t, mg "MOST_KEY_SIGNS" = some (.int 16 t)
  c_MOST_TEXT_SIGNS : ∃ t, mg "MOST_TEXT_SIGNS" = some (.int 32 t)
  c_GREATEST_VALUE : ∃ t, mg "GREATEST_VALUE" = some (.int 1000000000000000000 t)
  c_KEY_SIGNS : ∃ t, mg "KEY_SIGNS" = some (.str c_KEY_SIGNS t)
  c_TEXT_SIGNS : ∃ t, mg "TEXT_SIGNS" = some (.str c_TEXT_SIGNS t)
  b_len : mg "len" = none
  b_ord : mg "ord" = none
  b_tuple : mg "tuple" = none
  b_list : mg "list" = none
  b_range : mg "range" = none
  b_int : mg "int" = none
  b_str : mg "str" = none
  b_abs : mg "abs" = none
  b_repr : mg "repr" = none
  b_min : mg "min" = none
  b_sorted : mg "sorted" = none
  b_isinstance : mg "isinstance" = none
def erL (K : PySem.W.Frag) : Ers := ⟨fun c => He.ga K c, fun c => bif c == "InvalidOctets" then "at" else "name"⟩
end K04

namespace K04
open PySem PySem.Spec
open PyProof.Rows L2 DL DW
local macro_rules | `(tactic| walk_at "dw0") => `(tactic| simp only [DW.startS, DW.AV.sv, List.map_cons, List.map_nil, List.length_cons, List.length_nil, List.replicate_succ, List.replicate_zero, List.cons_append, List.nil_append, Nat.reduceAdd, Nat.reduceSub])
local macro_rules | `(tactic| walk_at "dw") => `(tactic| simp only [DW.wSeq, DW.wNext, DW.wIfS, DW.wRet, DW.wRetN, DW.wBreak, DW.wCont, DW.wSet, DW.wAsg, DW.wNew, DW.wNewL, DW.wNewC, DW.wExpr, DW.wApp, DW.wExt, DW.wExtA, DW.wPop, DW.wAug, DW.wRaise, DW.wVar, DW.wC, DW.wRaw, DW.wOp, DW.wUn, DW.waNil, DW.waCons, DW.wCB, DW.wTup, DW.wLst, DW.wTest, DW.wYes, DW.wAnd, DW.wOr, DW.wNot, DW.wTr, DW.gTr, DW.wAndV, DW.wOrV, DW.wNotV, DW.wIf, DW.rdq, DW.frz, DW.asg, DW.avf, DW.wuNil, DW.wuCons, DW.wCall, DW.wCallK, DW.wgName, DW.wgTup, DW.wgCons, DW.wgNil,
  DW.wParN, DW.wnNil, DW.wnD, DW.wnNew, DW.asgN, DW.gAdd, DW.gSub, DW.gMul, DW.gMod, DW.gDiv, DW.gPow, DW.gLt, DW.gLe, DW.gGt, DW.gGe, DW.gEq, DW.gNe, DW.gInB, DW.gIs, DW.gIsNot, DW.gIx, DW.gNeg, DW.gLen, DW.gToT, DW.gToL, DW.gInt, DW.gAbs, DW.gRepr, DW.gMin2, DW.gMax2, DW.gOrd, DW.gStr, DW.gAddI, DW.gSubI, DW.gIsB, DW.gIsntB, DW.gRep, DW.wJoin, DW.gJoin, DW.wIndex, DW.gIndex, DW.wRg1, DW.wRg2, DW.LT.mk, DW.wiSeq, DW.wiRng1, DW.wiRng2, DW.wiRngB, DW.wiEnumX, DW.wiEnum, DW.wipeS, DL.truth, DL.isNo, DW.wIsi, DW.wSl, DW.gSl, DW.gRev, DW.woNone, DW.woSome, DW.wFor_eq, DW.wLc_eq, DW.wNewLc_eq, DW.one_ord, DW.one_len, DL.oD_len,
  DW.eqv_int, DW.sh_intT, true_and, List.getElem?_cons_zero, List.getElem?_cons_succ, List.set_cons_zero, List.set_cons_succ, List.length_cons, List.length_nil, if_true, if_false, decide_eq_true_eq, Bool.false_eq_true, reduceIte, List.cons_append, List.nil_append, Nat.reduceAdd, Bool.not_true, Bool.not_false])
local macro_rules | `(tactic| walk_at "ds") => `(tactic| repeat ((with_reducible refine DW.Kt_i ?_); (walk_at "dw")))
local macro_rules | `(tactic| walk_at "go") => `(tactic| ((walk_at "dw0"); (walk_at "dw"); (walk_at "ds")))
/-! ### the mathematics of numbers as octets -/
def Oct (xs : List Int) : Prop := ∀ x ∈ xs, 0 ≤ x ∧ x < 256
def figsF : Nat → Nat → List Int
  | 0, n => [(n : Int)]
  | k + 1, n => if n < 128 then [(n : Int)] else (((n % 128 : Nat) : Int) + 128) :: figsF k (n / 128)
def figsN (n : Nat) : List Int := figsF 8 n
theorem figsF_oct : ∀ (k n : Nat), n < 128 ^ (k + 1) → Oct (figsF k n)
  | 0, n, h, x, hx => by
    rw [List.mem_singleton.mp hx]
    omega
  | k + 1, n, h, x, hx => by
    unfold figsF at hx
    split at hx
    · rw [List.mem_singleton.mp hx]; omega
    · rcases List.mem_cons.mp hx with hx | hx
      · rw [hx]; omega
      · exact figsF_oct k (n / 128) (by rw [Nat.pow_succ] at h; omega) x hx
theorem figsF_len : ∀ (k n : Nat), (figsF k n).length ≤ k + 1
  | 0, n => Nat.le_refl _
  | k + 1, n => by
    unfold figsF
    split
    · simp
    · rw [List.length_cons]; have := figsF_len k (n / 128); omega
/-- the number at a place: its turns left, the place, what is found, the worth -/
def goN (xs : List Int) (a : Nat) : Nat → Nat → Int → Int → Option (Int × Nat)
  | 0, _, _, _ => none
  | k + 1, p, tot, w => match xs[p]? with
    | none => none
    | some o => if o = 0 ∧ a < p then none else if o < 128 then some (tot + o % 128 * w, p + 1) else goN xs a k (p + 1) (tot + o % 128 * w) (w * 128)
def getN (xs : List Int) (a : Nat) : Option (Int × Nat) := goN xs a 9 a 0 1
theorem split_mul (n : Nat) (w : Int) : ((n % 128 : Nat) : Int) * w + ((n / 128 : Nat) : Int) * (w * 128) = (n : Int) * w := by
  have e : (n : Int) = ((n % 128 : Nat) : Int) + ((n / 128 : Nat) : Int) * 128 := by omega
  rw [e, Int.add_mul, Int.mul_assoc, Int.mul_comm w 128]
theorem go_figs : ∀ (k n : Nat) (A B : List Int) (a : Nat) (tot w : Int), n < 128 ^ (k + 1) → (n = 0 → A.length ≤ a) → goN (A ++ (figsF k n ++ B)) a (k + 1) A.length tot w = some (tot + n * w, A.length + (figsF k n).length)
  | k, n, A, B, a, tot, w, h, hz => by
    have small : n < 128 → figsF k n = [(n : Int)] := fun hlt => by
      cases k with
      | zero => rfl
      | succ k => unfold figsF; rw [if_pos hlt]
    by_cases h8 : n < 128
    · rw [small h8]
      unfold goN
      rw [List.getElem?_append_right (Nat.le_refl _), Nat.sub_self]
      show (if (n : Int) = 0 ∧ a < A.length then none else if (n : Int) < 128 then some (tot + (n : Int) % 128 * w, A.length + 1) else _) = _
      rw [if_neg (by omega), if_pos (by omega)]
      have e : (n : Int) % 128 = n := by omega
      rw [e]
      rfl
    · cases k with
      | zero => omega
      | succ k =>
        have ef : figsF (k + 1) n = (((n % 128 : Nat) : Int) + 128) :: figsF k (n / 128) := by
          conv => lhs; unfold figsF
          rw [if_neg h8]
        have ih := go_figs k (n / 128) (A ++ [((n % 128 : Nat) : Int) + 128]) B a (tot + ((n % 128 : Nat) : Int) * w) (w * 128) (by rw [Nat.pow_succ] at h; omega) (by omega)
        rw [ef]
        unfold goN
        rw [List.getElem?_append_right (Nat.le_refl _), Nat.sub_self]
        show (if ((n % 128 : Nat) : Int) + 128 = 0 ∧ a < A.length then none else if ((n % 128 : Nat) : Int) + 128 < 128 then _ else goN _ a (k + 1) (A.length + 1) (tot + (((n % 128 : Nat) : Int) + 128) % 128 * w) (w * 128)) = _
        rw [if_neg (by omega), if_neg (by omega)]
        have e1 : (((n % 128 : Nat) : Int) + 128) % 128 = ((n % 128 : Nat) : Int) := by omega
        have e2 : A ++ ((((n % 128 : Nat) : Int) + 128) :: figsF k (n / 128) ++ B) = (A ++ [((n % 128 : Nat) : Int) + 128]) ++ (figsF k (n / 128) ++ B) := by simp
        have e3 : (A ++ [((n % 128 : Nat) : Int) + 128]).length = A.length + 1 := by simp
        rw [e3] at ih
        rw [e1, e2, ih, Int.add_assoc, split_mul, List.length_cons]
        congr 2
        omega
theorem getN_figs {n : Nat} (A B : List Int) (h : n < 128 ^ 9) : getN (A ++ (figsN n ++ B)) A.length = some ((n : Int), A.length + (figsN n).length) := by
  have := go_figs 8 n A B A.length 0 1 h (fun _ => Nat.le_refl _)
  rw [Int.zero_add, Int.mul_one] at this
  exact this
theorem go_some : ∀ (k p a : Nat) (xs : List Int) (tot w v : Int) (q : Nat), Oct xs → a ≤ p → goN xs a (k + 1) p tot w = some (v, q) →
    ∃ m : Nat, v = tot + m * w ∧ p < q ∧ q ≤ xs.length ∧ (xs.drop p).take (q - p) = figsF k m ∧ m < 128 ^ (k + 1) ∧ (a < p → 0 < m)
  | k, p, a, xs, tot, w, v, q, ho, ha, h => by
    unfold goN at h
    cases e : xs[p]? with
    | none => rw [e] at h; cases h
    | some o =>
      rw [e] at h
      obtain ⟨hp, ep⟩ := List.getElem?_eq_some_iff.mp e
      have oo := ho o (List.mem_of_getElem? e)
      have ed : xs.drop p = o :: xs.drop (p + 1) := by rw [List.drop_eq_getElem_cons hp, ep]
      have h : (if o = 0 ∧ a < p then none else if o < 128 then some (tot + o % 128 * w, p + 1) else goN xs a k (p + 1) (tot + o % 128 * w) (w * 128)) = some (v, q) := h
      by_cases c1 : o = 0 ∧ a < p
      · rw [if_pos c1] at h; cases h
      rw [if_neg c1] at h
      by_cases c2 : o < 128
      · rw [if_pos c2] at h
        obtain ⟨rfl, rfl⟩ := Prod.mk.inj (Option.some.inj h)
        have eo : ((o.toNat : Nat) : Int) = o := Int.toNat_of_nonneg oo.1
        have pw : 128 ≤ 128 ^ (k + 1) := by rw [Nat.pow_succ]; exact Nat.le_mul_of_pos_left _ (Nat.pow_pos (by decide))
        refine ⟨o.toNat, ?_, Nat.lt_succ_self _, hp, ?_, by omega, fun h => by omega⟩
        · rw [eo]
          have : o % 128 = o := by omega
          rw [this]
        · rw [ed, Nat.add_sub_cancel_left]
          have : figsF k o.toNat = [o] := by
            cases k with
            | zero => unfold figsF; rw [eo]
            | succ k => unfold figsF; rw [if_pos (by omega), eo]
          rw [this]
          rfl
      · rw [if_neg c2] at h
        cases k with
        | zero => unfold goN at h; cases h
        | succ k =>
          obtain ⟨m, e1, e2, e3, e4, e5, e6⟩ := go_some k (p + 1) a xs _ _ v q ho (by omega) h
          have m0 := e6 (by omega)
          have eo : ((o.toNat : Nat) : Int) = o := Int.toNat_of_nonneg oo.1
          have em : ((o.toNat - 128) + 128 * m) % 128 = o.toNat - 128 := by omega
          have ed2 : ((o.toNat - 128) + 128 * m) / 128 = m := by omega
          refine ⟨(o.toNat - 128) + 128 * m, ?_, by omega, e3, ?_, ?_, fun _ => by omega⟩
          · have sm := split_mul ((o.toNat - 128) + 128 * m) w
            rw [em, ed2] at sm
            have e7 : ((o.toNat - 128 : Nat) : Int) = o % 128 := by omega
            rw [e7] at sm
            rw [e1, ← sm, Int.add_assoc]
          · have ef : figsF (k + 1) ((o.toNat - 128) + 128 * m) = o :: figsF k m := by
              conv => lhs; unfold figsF
              rw [if_neg (by omega), em, ed2]
              congr 1
              omega
            have el : q - p = (q - (p + 1)) + 1 := by omega
            rw [ef, ed, el, List.take_succ_cons, e4]
          · have : 128 ^ (k + 1 + 1) = 128 ^ (k + 1) * 128 := Nat.pow_succ ..
            omega
theorem getN_some {xs : List Int} {a q : Nat} {v : Int} (ho : Oct xs) (h : getN xs a = some (v, q)) : ∃ m : Nat, v = m ∧ a < q ∧ q ≤ xs.length ∧ (xs.drop a).take (q - a) = figsN m ∧ m < 128 ^ 9 := by
  obtain ⟨m, e1, e2, e3, e4, e5, _⟩ := go_some 8 a a xs 0 1 v q ho (Nat.le_refl _) h
  exact ⟨m, by rw [e1, Int.zero_add, Int.mul_one], e2, e3, e4, e5⟩
/-! ### signs -/
def codes (z : Str) : List Int := z.cps.toList.map fun c : Nat => (c : Int)
def one (c : Nat) : Str := ⟨#[c]⟩
def signAt (xs : List Int) (a : Nat) (z : Str) : Option Nat := match xs[a]? with
  | none => none
  | some o => z.cps.toList.find? fun c => decide ((c : Int) = o)
def pre_codes_of (as : List AV) : Prop := ∃ z : Str, as = [.d (.str z)] ∧ z.length < sizeLine
def post_codes_of (as : List AV) (d : PyData) : Prop := ∃ z : Str, as = [.d (.str z)] ∧ d = .tuple (oD (codes z))
abbrev exc_codes_of := noE
theorem len_codes_of : ∀ as, pre_codes_of as → as.length = 1 := by rintro as ⟨z, rfl, _⟩; rfl
def oneD : Option Nat → PyData
  | none => .none
  | some c => .str ⟨#[c]⟩
def pre_sign_at (as : List AV) : Prop := ∃ (xs : List Int) (a : Nat) (z : Str), as = [.d (.tuple (oD xs)), .d (.int a), .d (.str z)]
def post_sign_at (as : List AV) (d : PyData) : Prop := ∃ (xs : List Int) (a : Nat) (z : Str), as = [.d (.tuple (oD xs)), .d (.int a), .d (.str z)] ∧ d = oneD (signAt xs a z)
abbrev exc_sign_at := noE
theorem len_sign_at : ∀ as, pre_sign_at as → as.length = 3 := by rintro as ⟨_, _, _, rfl⟩; rfl
/-! ### numbers -/
def pre_put_number (as : List AV) : Prop := ∃ n : Nat, as = [.d (.int n)] ∧ n < 128 ^ 9
def post_put_number (as : List AV) (d : PyData) : Prop := ∃ n : Nat, as = [.d (.int n)] ∧ d = .tuple (oD (figsN n))
abbrev exc_put_number := noE
theorem len_put_number : ∀ as, pre_put_number as → as.length = 1 := by rintro as ⟨_, rfl, _⟩; rfl
def rdArgs (xs : List Int) (a : Nat) : List AV := [.d (.tuple (oD xs)), .d (.int a)]
def preR (as : List AV) : Prop := ∃ (xs : List Int) (a : Nat), as = rdArgs xs a ∧ Oct xs ∧ xs.length < 2 ^ 20 ∧ a ≤ xs.length
abbrev pre_get_number := preR
def pairD (v : PyData) (q : Nat) : PyData := .tuple [v, .int q]
def post_get_number (as : List AV) (d : PyData) : Prop := ∃ xs a v q, as = rdArgs xs a ∧ getN xs a = some (v, q) ∧ d = pairD (.int v) q
def exc_get_number (as : List AV) (c : Str) (x : PyData) : Prop := ∃ (xs : List Int) (a : Nat), as = rdArgs xs a ∧ getN xs a = none ∧ c = "InvalidOctets" ∧ x = .int a
theorem len_preR : ∀ as, preR as → as.length = 2 := by rintro as ⟨_, _, rfl, _⟩; rfl
abbrev len_get_number := len_preR
theorem rd_inj {xs ys : List Int} {a b : Nat} (h : rdArgs xs a = rdArgs ys b) : xs = ys ∧ a = b := by
  obtain ⟨e1, e2⟩ := List.cons.inj h
  have e3 := PyData.int.inj (AV.d.inj (List.cons.inj e2).1)
  exact ⟨oD_inj (PyData.tuple.inj (AV.d.inj e1)), by omega⟩
def zig (i : Int) : Nat := if 0 ≤ i then (2 * i).toNat else (-2 * i - 1).toNat
def zag (v : Int) : Int := if v % 2 = 0 then v / 2 else -(v + 1) / 2
def pre_put_integer (as : List AV) : Prop := ∃ i : Int, as = [.d (.int i)] ∧ -(2 ^ 62) ≤ i ∧ i < 2 ^ 62
def post_put_integer (as : List AV) (d : PyData) : Prop := ∃ i : Int, as = [.d (.int i)] ∧ d = .tuple (oD (figsN (zig i)))
abbrev exc_put_integer := noE
theorem len_put_integer : ∀ as, pre_put_integer as → as.length = 1 := by rintro as ⟨_, rfl, _⟩; rfl
abbrev pre_get_integer := preR
def post_get_integer (as : List AV) (d : PyData) : Prop := ∃ xs a v q, as = rdArgs xs a ∧ getN xs a = some (v, q) ∧ d = pairD (.int (zag v)) q
abbrev exc_get_integer := exc_get_number
abbrev len_get_integer := len_preR
section
variable {P : Program} {w : World} {K : PySem.W.Frag} {mg : Str → Option Value} {base : Heap} {f : Addr} {fd : FuncData}
abbrev s_codes_of : Stmt := top 11
abbrev N_codes_of : List Str := ["text", "sign"]
theorem sc_codes_of : FnScope N_codes_of ["text"] (defScope s_codes_of) := ⟨rfl, rfl, rfl, by decide +kernel, rfl, by decide +kernel, by decide +kernel⟩
def w_codes_of : WS := (wRet (wUn gToT (wLc (wiSeq (wVar 0)) (wgName 1) wYes (wUn gOrd (wVar 1)) [1])))
def Go_codes_of : Prop := ∀ as, pre_codes_of as → w_codes_of (startS 2 as) ⟨fun _ => post_codes_of as .none, fun d _ => post_codes_of as d, fun _ => False, fun _ => False, fun c x _ => exc_codes_of as c x⟩
theorem ok_codes_of (go : Go_codes_of) (F : FnP K "codes_of" s_codes_of f fd) (T : Fx mg)  : FnG P w K mg base (L2.CX P w) 1 f fd ["text"] (spU K (erL K) anyM pre_codes_of post_codes_of exc_codes_of) := by
  have nd := sc_codes_of.nd
  refine fn_w (ws := w_codes_of) F sc_codes_of len_codes_of (by decide) (fun cdv A out s H E hG hr => ?_) go
  exact ⟨_, (dss_one (ds_ret (de_t1 (cl_tupK K rfl) us_tup T.b_tuple (de_lc (own := [("sign", 1)]) (g := (gName 1)) rfl nd (di_seq rfl (de_var (pv 0))) (blkOk_by (own := [("sign", 1)]) (N := N_codes_of) (sc := defScope s_codes_of) (by decide +kernel)) (tin_name (by decide)) (fun _ _ _ _ _ => (dg_name (pg_name (i := 1) nd rfl (Or.inl rfl)))) (fun _ _ _ _ _ => dts_nil) (fun _ _ _ _ _ => (de_b1 call_ord us_ord T.b_ord (de_var (pv 1))))))))⟩

abbrev s_sign_at : Stmt := top 12
abbrev N_sign_at : List Str := ["octets", "at", "signs", "sign"]
theorem sc_sign_at : FnScope N_sign_at ["octets", "at", "signs"] (defScope s_sign_at) := ⟨rfl, rfl, rfl, by decide +kernel, rfl, by decide +kernel, by decide +kernel⟩
def w_sign_at : WS := (wSeq (wIfS (wTest (wOp gGe (wVar 1) (wUn gLen (wVar 0)))) (wRet (wC .none))
 wNext)
 (wSeq (wFor (wiSeq (wVar 2)) (wgName 3)
 (wIfS (wTest (wOp gEq (wUn gOrd (wVar 3)) (wOp gIx (wVar 0) (wVar 1)))) (wRet (wVar 3))
 wNext))
 (wRet (wC .none))))
def Go_sign_at : Prop := ∀ as, pre_sign_at as → w_sign_at (startS 4 as) ⟨fun _ => post_sign_at as .none, fun d _ => post_sign_at as d, fun _ => False, fun _ => False, fun c x _ => exc_sign_at as c x⟩
theorem ok_sign_at (go : Go_sign_at) (F : FnP K "sign_at" s_sign_at f fd) (T : Fx mg)  : FnG P w K mg base (L2.CX P w) 1 f fd ["octets", "at", "signs"] (spU K (erL K) anyM pre_sign_at post_sign_at exc_sign_at) := by
  have nd := sc_sign_at.nd
  refine fn_w (ws := w_sign_at) F sc_sign_at len_sign_at (by decide) (fun cdv A out s H E hG hr => ?_) go
  exact ⟨_, (dss_cons (ds_if (dt_cmp op_geW os_ge (nomark _) (de_var (pv 1)) (de_b1 (cl_lenK K rfl) us_len T.b_len (de_var (pv 0)))) (dss_one (ds_ret (de_non pe_non)))
 dss_nil)
 (dss_cons (ds_for (passes_of rfl) rfl (di_seq rfl (de_var (pv 2))) (dg_name (pg_name (i := 3) nd rfl (Or.inl rfl)))
 (dss_one (ds_if (dt_cmp (op_eqW rfl (hu64 hr)) os_eq (nomark _) (de_b1 call_ord us_ord T.b_ord (de_var (pv 3))) (de_ix rfl (de_var (pv 0)) (de_var (pv 1)))) (dss_one (ds_ret (de_var (pv 3))))
 dss_nil)))
 (dss_one (ds_ret (de_non pe_non)))))⟩

abbrev s_put_number : Stmt := top 13
abbrev N_put_number : List Str := ["number", "figures"]
theorem sc_put_number : FnScope N_put_number ["number"] (defScope s_put_number) := ⟨rfl, rfl, rfl, by decide +kernel, rfl, by decide +kernel, by decide +kernel⟩
def w_put_number : WS := (wSeq (wNew 1)
 (wSeq (wWhile (wTest (wOp gGe (wVar 0) (wC (.int 128))))
 (wSeq (wApp 1 (wOp gAdd (wOp gMod (wVar 0) (wC (.int 128))) (wC (.int 128))))
 (wSet 0 (wOp gDiv (wVar 0) (wC (.int 128))))))
 (wSeq (wApp 1 (wVar 0))
 (wRet (wUn gToT (wVar 1))))))
def Go_put_number : Prop := ∀ as, pre_put_number as → w_put_number (startS 2 as) ⟨fun _ => post_put_number as .none, fun d _ => post_put_number as d, fun _ => False, fun _ => False, fun c x _ => exc_put_number as c x⟩
theorem ok_put_number (go : Go_put_number) (F : FnP K "put_number" s_put_number f fd) (T : Fx mg)  : FnG P w K mg base (L2.CX P w) 1 f fd ["number"] (spU K (erL K) anyM pre_put_number post_put_number exc_put_number) := by
  have nd := sc_put_number.nd
  refine fn_w (ws := w_put_number) F sc_put_number len_put_number (by decide) (fun cdv A out s H E hG hr => ?_) go
  exact ⟨_, (dss_cons (ds_new (i := 1) nd rfl (Or.inl rfl))
 (dss_cons (ds_while (passes_of rfl) (dt_cmp op_geW os_ge (nomark _) (de_var (pv 0)) (de_int pe_int))
 (dss_cons (ds_appD rfl (fun h => ps_expr (pe_bm PySem.F.plainAttrs_list PySem.F.slot_list_append PySem.F.type_list_append mt_append (pv 1) h)) (de_op (op_addW rfl) os_add (de_op op_mod os_mod (de_var (pv 0)) (de_int pe_int)) (de_int pe_int)))
 (dss_one (ds_set (i := 0) nd rfl (Or.inl rfl) (de_op op_fdivW os_div (de_var (pv 0)) (de_int pe_int))))))
 (dss_cons (ds_appD rfl (fun h => ps_expr (pe_bm PySem.F.plainAttrs_list PySem.F.slot_list_append PySem.F.type_list_append mt_append (pv 1) h)) (de_var (pv 0)))
 (dss_one (ds_ret (de_t1 (cl_tupK K rfl) us_tup T.b_tuple (de_var (pv 1))))))))⟩

abbrev s_get_number : Stmt := top 14
abbrev N_get_number : List Str := ["octets", "at", "number", "worth", "here", "octet"]
theorem sc_get_number : FnScope N_get_number ["octets", "at"] (defScope s_get_number) := ⟨rfl, rfl, rfl, by decide +kernel, rfl, by decide +kernel, by decide +kernel⟩
def w_get_number : WS := (wSeq (wSet 2 (wC (.int 0)))
 (wSeq (wSet 3 (wC (.int 1)))
 (wSeq (wFor (wiRng2 (waCons (wVar 1) (waCons (wCB gMin2 (waCons (wOp gAdd (wVar 1) (wC (.int 9))) (waCons (wUn gLen (wVar 0)) waNil))) waNil))) (wgName 4)
 (wSeq (wSet 5 (wOp gIx (wVar 0) (wVar 4)))
 (wSeq (wSet 2 (wOp gAdd (wVar 2) (wOp gMul (wOp gMod (wVar 5) (wC (.int 128))) (wVar 3))))
 (wSeq (wSet 3 (wOp gMul (wVar 3) (wC (.int 128))))
 (wSeq (wIfS (wAnd (wTest (wOp gEq (wVar 5) (wC (.int 0)))) (wTest (wOp gGt (wVar 4) (wVar 1)))) (wRaise "InvalidOctets" (wVar 1))
 wNext)
 (wIfS (wTest (wOp gLt (wVar 5) (wC (.int 128)))) (wRet (wTup (waCons (wVar 2) (waCons (wOp gAdd (wVar 4) (wC (.int 1))) waNil))))
 wNext))))))
 (wRaise "InvalidOctets" (wVar 1)))))
def Go_get_number : Prop := ∀ as, pre_get_number as → w_get_number (startS 6 as) ⟨fun _ => post_get_number as .none, fun d _ => post_get_number as d, fun _ => False, fun _ => False, fun c x _ => exc_get_number as c x⟩
theorem ok_get_number (go : Go_get_number) (F : FnP K "get_number" s_get_number f fd) (T : Fx mg) (R_InvalidOctets : Er P w K mg base "InvalidOctets" ((erL K).cl "InvalidOctets") "at") : FnG P w K mg base (L2.CX P w) 3 f fd ["octets", "at"] (spU K (erL K) anyM pre_get_number post_get_number exc_get_number) := by
  have nd := sc_get_number.nd
  refine fn_w (ws := w_get_number) F sc_get_number len_get_number (by decide) (fun cdv A out s H E hG hr => ?_) go
  exact ⟨_, (dss_cons (ds_set (i := 2) nd rfl (Or.inl rfl) (de_int pe_int))
 (dss_cons (ds_set (i := 3) nd rfl (Or.inl rfl) (de_int pe_int))
 (dss_cons (ds_for (passes_of rfl) rfl (di_rng2 rfl T.b_range (da_cons' (de_var (pv 1)) (da_cons' (de_bn (call_min2 rfl) cs_min2 T.b_min (da_cons' (de_op (op_addW rfl) os_add (de_var (pv 1)) (de_int (xGI T.c_MOST_NUMBER_OCTETS))) (da_cons' (de_b1 (cl_lenK K rfl) us_len T.b_len (de_var (pv 0))) da_nil'))) da_nil'))) (dg_name (pg_name (i := 4) nd rfl (Or.inl rfl)))
 (dss_cons (ds_set (i := 5) nd rfl (Or.inl rfl) (de_ix rfl (de_var (pv 0)) (de_var (pv 4))))
 (dss_cons (ds_set (i := 2) nd rfl (Or.inl rfl) (de_op (op_addW rfl) os_add (de_var (pv 2)) (de_op op_mulW os_mul (de_op op_mod os_mod (de_var (pv 5)) (de_int pe_int)) (de_var (pv 3)))))
 (dss_cons (ds_set (i := 3) nd rfl (Or.inl rfl) (de_op op_mulW os_mul (de_var (pv 3)) (de_int pe_int)))
 (dss_cons (ds_if (dt_w (dw_and (dt_cmp (op_eqW rfl (hu64 hr)) os_eq (nomark _) (de_var (pv 5)) (de_int pe_int)) (dw_and1 (dt_cmp op_gtW os_gt (nomark _) (de_var (pv 4)) (de_var (pv 1)))))) (dss_one (ds_raise R_InvalidOctets rfl rfl rfl (takes_of rfl rfl rfl rfl) (hr.mono (by decide)) (de_var (pv 1))))
 dss_nil)
 (dss_one (ds_if (dt_cmp op_ltW os_lt (nomark _) (de_var (pv 5)) (de_int pe_int)) (dss_one (ds_ret (de_tup (da_cons' (de_var (pv 2)) (da_cons' (de_op (op_addW rfl) os_add (de_var (pv 4)) (de_int pe_int)) da_nil')))))
 dss_nil)))))))
 (dss_one (ds_raise R_InvalidOctets rfl rfl rfl (takes_of rfl rfl rfl rfl) (hr.mono (by decide)) (de_var (pv 1)))))))⟩

abbrev s_put_integer : Stmt := top 15
abbrev N_put_integer : List Str := ["integer"]
theorem sc_put_integer : FnScope N_put_integer ["integer"] (defScope s_put_integer) := ⟨rfl, rfl, rfl, by decide +kernel, rfl, by decide +kernel, by decide +kernel⟩
def w_put_integer : WS := (wRet (wCall pre_put_number post_put_number exc_put_number (wuCons (wIf (wTest (wOp gGe (wVar 0) (wC (.int 0)))) (wOp gMul (wC (.int 2)) (wVar 0)) (wOp gSub (wOp gMul (wUn gNeg (wC (.int 2))) (wVar 0)) (wC (.int 1)))) wuNil)))
def Go_put_integer : Prop := ∀ as, pre_put_integer as → w_put_integer (startS 1 as) ⟨fun _ => post_put_integer as .none, fun d _ => post_put_integer as d, fun _ => False, fun _ => False, fun c x _ => exc_put_integer as c x⟩
theorem ok_put_integer (go : Go_put_integer) (F : FnP K "put_integer" s_put_integer f fd) (T : Fx mg) (C_put_number : Ca5 P w K mg base (L2.CX P w) 1 "put_number" ["number"] (spU K (erL K) anyM pre_put_number post_put_number exc_put_number)) : FnG P w K mg base (L2.CX P w) 2 f fd ["integer"] (spU K (erL K) anyM pre_put_integer post_put_integer exc_put_integer) := by
  have nd := sc_put_integer.nd
  refine fn_w (ws := w_put_integer) F sc_put_integer len_put_integer (by decide) (fun cdv A out s H E hG hr => ?_) go
  exact ⟨_, (dss_one (ds_ret (de_call C_put_number hG (hr.mono (by decide)) (passW (takes_of rfl rfl rfl rfl)) (fun _ _ => trivial) (du_cons (de_ifx (dt_cmp op_geW os_ge (nomark _) (de_var (pv 0)) (de_int pe_int)) (de_op op_mulW os_mul (de_int pe_int) (de_var (pv 0))) (de_op op_sub os_sub (de_op op_mulW os_mul (de_un un_neg us_neg (de_int pe_int)) (de_var (pv 0))) (de_int pe_int))) du_nil))))⟩

abbrev s_get_integer : Stmt := top 16
abbrev N_get_integer : List Str := ["octets", "at", "number", "behind"]
theorem sc_get_integer : FnScope N_get_integer ["octets", "at"] (defScope s_get_integer) := ⟨rfl, rfl, rfl, by decide +kernel, rfl, by decide +kernel, by decide +kernel⟩
def w_get_integer : WS := (wSeq (wAsg (wCall pre_get_number post_get_number exc_get_number (wuCons (wVar 0) (wuCons (wVar 1) wuNil))) (wgTup 2 (wgCons (wgName 2) (wgCons (wgName 3) wgNil))))
 (wSeq (wIfS (wTest (wOp gEq (wOp gMod (wVar 2) (wC (.int 2))) (wC (.int 0)))) (wRet (wTup (waCons (wOp gDiv (wVar 2) (wC (.int 2))) (waCons (wVar 3) waNil))))
 wNext)
 (wRet (wTup (waCons (wOp gDiv (wUn gNeg (wOp gAdd (wVar 2) (wC (.int 1)))) (wC (.int 2))) (waCons (wVar 3) waNil))))))
def Go_get_integer : Prop := ∀ as, pre_get_integer as → w_get_integer (startS 4 as) ⟨fun _ => post_get_integer as .none, fun d _ => post_get_integer as d, fun _ => False, fun _ => False, fun c x _ => exc_get_integer as c x⟩
theorem ok_get_integer (go : Go_get_integer) (F : FnP K "get_integer" s_get_integer f fd) (T : Fx mg) (C_get_number : Ca5 P w K mg base (L2.CX P w) 3 "get_number" ["octets", "at"] (spU K (erL K) anyM pre_get_number post_get_number exc_get_number)) : FnG P w K mg base (L2.CX P w) 4 f fd ["octets", "at"] (spU K (erL K) anyM pre_get_integer post_get_integer exc_get_integer) := by
  have nd := sc_get_integer.nd
  refine fn_w (ws := w_get_integer) F sc_get_integer len_get_integer (by decide) (fun cdv A out s H E hG hr => ?_) go
  exact ⟨_, (dss_cons (ds_asg (de_call C_get_number hG (hr.mono (by decide)) (passW (takes_of rfl rfl rfl rfl)) (fun _ _ => trivial) (du_cons (de_var (pv 0)) (du_cons (de_var (pv 1)) du_nil))) (dg_tup rfl rfl (dgs_cons (dg_name (pg_name (i := 2) nd rfl (Or.inl rfl))) (dgs_cons (dg_name (pg_name (i := 3) nd rfl (Or.inl rfl))) dgs_nil))))
 (dss_cons (ds_if (dt_cmp (op_eqW rfl (hu64 hr)) os_eq (nomark _) (de_op op_mod os_mod (de_var (pv 2)) (de_int pe_int)) (de_int pe_int)) (dss_one (ds_ret (de_tup (da_cons' (de_op op_fdivW os_div (de_var (pv 2)) (de_int pe_int)) (da_cons' (de_var (pv 3)) da_nil')))))
 dss_nil)
 (dss_one (ds_ret (de_tup (da_cons' (de_op op_fdivW os_div (de_un un_neg us_neg (de_op (op_addW rfl) os_add (de_var (pv 2)) (de_int pe_int))) (de_int pe_int)) (da_cons' (de_var (pv 3)) da_nil')))))))⟩


end
end K04

namespace K04
open PySem PySem.Spec
open PyProof.Rows L2 DL DW
local macro_rules | `(tactic| walk_at "dw0") => `(tactic| simp only [DW.startS, DW.AV.sv, List.map_cons, List.map_nil, List.length_cons, List.length_nil, List.replicate_succ, List.replicate_zero, List.cons_append, List.nil_append, Nat.reduceAdd, Nat.reduceSub])
local macro_rules | `(tactic| walk_at "dw") => `(tactic| simp only [DW.wSeq, DW.wNext, DW.wIfS, DW.wRet, DW.wRetN, DW.wBreak, DW.wCont, DW.wSet, DW.wAsg, DW.wNew, DW.wNewL, DW.wNewC, DW.wExpr, DW.wApp, DW.wExt, DW.wExtA, DW.wPop, DW.wAug, DW.wRaise, DW.wVar, DW.wC, DW.wRaw, DW.wOp, DW.wUn, DW.waNil, DW.waCons, DW.wCB, DW.wTup, DW.wLst, DW.wTest, DW.wYes, DW.wAnd, DW.wOr, DW.wNot, DW.wTr, DW.gTr, DW.wAndV, DW.wOrV, DW.wNotV, DW.wIf, DW.rdq, DW.frz, DW.asg, DW.avf, DW.wuNil, DW.wuCons, DW.wCall, DW.wCallK, DW.wgName, DW.wgTup, DW.wgCons, DW.wgNil,
  DW.wParN, DW.wnNil, DW.wnD, DW.wnNew, DW.asgN, DW.gAdd, DW.gSub, DW.gMul, DW.gMod, DW.gDiv, DW.gPow, DW.gLt, DW.gLe, DW.gGt, DW.gGe, DW.gEq, DW.gNe, DW.gInB, DW.gIs, DW.gIsNot, DW.gIx, DW.gNeg, DW.gLen, DW.gToT, DW.gToL, DW.gInt, DW.gAbs, DW.gRepr, DW.gMin2, DW.gMax2, DW.gOrd, DW.gStr, DW.gAddI, DW.gSubI, DW.gIsB, DW.gIsntB, DW.gRep, DW.wJoin, DW.gJoin, DW.wIndex, DW.gIndex, DW.wRg1, DW.wRg2, DW.LT.mk, DW.wiSeq, DW.wiRng1, DW.wiRng2, DW.wiRngB, DW.wiEnumX, DW.wiEnum, DW.wipeS, DL.truth, DL.isNo, DW.wIsi, DW.wSl, DW.gSl, DW.gRev, DW.woNone, DW.woSome, DW.wFor_eq, DW.wLc_eq, DW.wNewLc_eq, DW.one_ord, DW.one_len, DL.oD_len,
  DW.eqv_int, DW.sh_intT, true_and, List.getElem?_cons_zero, List.getElem?_cons_succ, List.set_cons_zero, List.set_cons_succ, List.length_cons, List.length_nil, if_true, if_false, decide_eq_true_eq, Bool.false_eq_true, reduceIte, List.cons_append, List.nil_append, Nat.reduceAdd, Bool.not_true, Bool.not_false])
local macro_rules | `(tactic| walk_at "ds") => `(tactic| repeat ((with_reducible refine DW.Kt_i ?_); (walk_at "dw")))
local macro_rules | `(tactic| walk_at "go") => `(tactic| ((walk_at "dw0"); (walk_at "dw"); (walk_at "ds")))
theorem oD_snoc {xs : List Int} {i : Nat} {c : Int} (h : xs[i]? = some c) : oD (xs.take i) ++ [.int c] = oD (xs.take (i + 1)) := by
  rw [List.take_add_one, h]
  unfold oD
  simp
theorem codes_at {z : Str} {i c : Nat} (h : z.cps.toList[i]? = some c) : (codes z)[i]? = some (c : Int) := by unfold codes; rw [List.getElem?_map, h]; rfl
theorem codes_len (z : Str) : (codes z).length = z.cps.size := by unfold codes; simp
theorem find_first {p : Nat → Bool} : ∀ {l : List Nat} {i c : Nat}, l[i]? = some c → p c = true → (∀ x ∈ l.take i, p x = false) → l.find? p = some c
  | [], _, _, h, _, _ => by cases h
  | x :: l, 0, c, h, hp, _ => by cases h; rw [List.find?_cons_of_pos hp]
  | x :: l, i + 1, c, h, hp, hn => by
    rw [List.find?_cons_of_neg (by rw [hn x (by simp)]; decide)]
    exact find_first (i := i) (by simpa using h) hp fun y hy => hn y (by rw [List.take_succ_cons]; exact List.mem_cons_of_mem _ hy)
theorem go_codes_of : Go_codes_of := by
  rintro as ⟨z, rfl, hz⟩
  unfold w_codes_of
  walk_at "go"
  refine ⟨by rw [signsD_len]; exact hz, fun i acc s => s = [some (.d (.str z)), none] ∧ acc = oD ((codes z).take i), ⟨rfl, rfl⟩, ?_, ?_⟩
  · rintro i d acc s2 hd ⟨rfl, rfl⟩
    obtain ⟨c, hc, rfl⟩ := signsD_at hd
    walk_at "dw"
    exact oD_snoc (codes_at hc)
  · rintro acc s2 ⟨rfl, rfl⟩
    exact ⟨z, rfl, by rw [signsD_len, ← codes_len, List.take_length]⟩
theorem go_sign_at : Go_sign_at := by
  rintro as ⟨xs, a, z, rfl⟩
  unfold w_sign_at
  walk_at "go"
  split
  · rename_i h
    refine ⟨xs, a, z, rfl, ?_⟩
    unfold signAt
    rw [List.getElem?_eq_none (by omega)]
    rfl
  · rename_i h
    have ha : a < xs.length := by omega
    have e := List.getElem?_eq_getElem ha
    generalize xs[a] = o at e
    walk_at "ds"
    refine ⟨fun i s => (∃ v, s = [some (.d (.tuple (oD xs))), some (.d (.int a)), some (.d (.str z)), v]) ∧ ∀ c ∈ z.cps.toList.take i, decide ((c : Int) = o) = false, ⟨⟨_, rfl⟩, by simp⟩, ?_, ?_⟩
    · rintro i d s2 hd ⟨⟨v, rfl⟩, hn⟩
      obtain ⟨c, hc, rfl⟩ := signsD_at hd
      walk_at "dw"
      refine ⟨.int o, L2.atI_nat (oD_get e), ?_⟩
      walk_at "dw"
      split
      · rename_i h2
        refine ⟨xs, a, z, rfl, ?_⟩
        unfold signAt
        rw [e]
        show _ = oneD (List.find? _ _)
        rw [find_first hc (decide_eq_true h2) hn]
        rfl
      · rename_i h2
        refine ⟨⟨_, rfl⟩, fun c' hm => ?_⟩
        rw [List.take_add_one, hc] at hm
        rcases List.mem_append.mp hm with hm | hm
        · exact hn c' hm
        · rw [Option.toList_some, List.mem_singleton] at hm
          subst hm
          exact decide_eq_false h2
    · rintro s2 ⟨⟨v, rfl⟩, hn⟩
      walk_at "ds"
      refine ⟨xs, a, z, rfl, ?_⟩
      unfold signAt
      rw [e]
      show _ = oneD (List.find? _ _)
      rw [List.find?_eq_none.mpr (fun c hc => by
        have := hn c (by rw [signsD_len, List.take_of_length_le (by simp)]; exact hc)
        rw [this]; decide)]
      rfl
theorem go_put_number : Go_put_number := by
  rintro as ⟨n0, rfl, hn⟩
  unfold w_put_number
  walk_at "go"
  refine ⟨fun k s => ∃ (n : Nat) (acc : List Int), s = [some (.d (.int n)), some (.own (oD acc))] ∧ n < 128 ^ (k + 1) ∧ acc ++ figsF k n = figsN n0 ∧ acc.length + k = 8, ⟨8, n0, [], rfl, hn, rfl, rfl⟩, ?_⟩
  rintro k s1 ⟨n, acc, rfl, h1, h2, h3⟩
  have hz := sizeLine_eq
  walk_at "dw"
  split
  · rename_i h
    refine ⟨⟨_, rfl⟩, by decide, by omega, ?_⟩
    walk_at "ds"
    refine ⟨cdiv_small (by decide) (by decide), ?_⟩
    cases k with
    | zero => omega
    | succ k =>
      refine ⟨k, Nat.lt_succ_self _, n / 128, acc ++ [((n % 128 : Nat) : Int) + 128], ?_, ?_, ?_, ?_⟩
      · unfold oD
        simp
      · rw [Nat.pow_succ] at h1; omega
      · rw [← h2]
        conv => rhs; unfold figsF
        rw [if_neg (by omega)]
        simp
      · simp; omega
  · rename_i h
    walk_at "ds"
    refine ⟨⟨_, rfl⟩, by omega, ?_⟩
    walk_at "ds"
    refine ⟨n0, rfl, ?_⟩
    rw [← h2]
    have : figsF k n = [(n : Int)] := by
      cases k with
      | zero => rfl
      | succ k => unfold figsF; rw [if_pos (by omega)]
    rw [this]
    unfold oD
    simp
def w_fin (xs : List Int) (a i : Nat) (o : Int) (w : Nat) (tot : Int) : Prop := (o < 128 → getN xs a = some (tot + o % 128 * (w : Int), a + i + 1)) ∧ (¬ o < 128 → goN xs a (9 - (i + 1)) (a + i + 1) (tot + o % 128 * (w : Int)) ((w : Int) * 128) = getN xs a)
theorem go_get_number : Go_get_number := by
  rintro as ⟨xs, a, rfl, ho, hl, ha⟩
  unfold w_get_number rdArgs
  walk_at "go"
  have hl20 : xs.length < 1048576 := hl
  refine ⟨⟨by omega, by omega, by split <;> omega, by split <;> omega⟩, fun i s => ∃ tot v4 v5, s = [some (.d (.tuple (oD xs))), some (.d (.int a)), some (.d (.int tot)), some (.d (.int ((128 ^ i : Nat) : Int))), v4, v5] ∧ i ≤ 9 ∧ goN xs a (9 - i) (a + i) tot ((128 ^ i : Nat) : Int) = getN xs a, ⟨0, none, none, rfl, by decide, rfl⟩, ?_, ?_⟩
  · rintro i d s2 hd ⟨tot, v4, v5, rfl, hi, hg⟩
    obtain ⟨rfl, hk⟩ := rngD_at hd
    have hk1 : a + i < xs.length := by split at hk <;> omega
    have hk2 : i < 9 := by split at hk <;> omega
    walk_at "dw"
    have e := List.getElem?_eq_getElem hk1
    generalize xs[a + i] = o at e
    have e0 : ((a : Int) + (i : Nat)) = ((a + i : Nat) : Int) := by omega
    have oo := ho o (List.mem_of_getElem? e)
    have pw : (128 ^ i : Nat) ≤ 128 ^ 8 := Nat.pow_le_pow_right (by decide) (by omega)
    have eg : goN xs a (9 - i) (a + i) tot ((128 ^ i : Nat) : Int) = if o = 0 ∧ a < a + i then none else if o < 128 then some (tot + o % 128 * ((128 ^ i : Nat) : Int), a + i + 1) else goN xs a (9 - (i + 1)) (a + i + 1) (tot + o % 128 * ((128 ^ i : Nat) : Int)) (((128 ^ i : Nat) : Int) * 128) := by
      have : 9 - i = (9 - (i + 1)) + 1 := by omega
      rw [this]
      conv => lhs; unfold goN
      rw [e]
    have epw : ((128 ^ i : Nat) : Int) * 128 = ((128 ^ (i + 1) : Nat) : Int) := by rw [Nat.pow_succ]; omega
    generalize hw : (128 ^ i : Nat) = w at *
    refine ⟨.int o, by rw [e0]; exact L2.atI_nat (oD_get e), ?_⟩
    walk_at "ds"
    refine ⟨by decide, cmul_small (by omega) (by omega), ?_⟩
    walk_at "ds"
    refine ⟨cmul_small (by omega) (by decide), ?_⟩
    walk_at "ds"
    rw [eg] at hg
    have fin : ¬ (o = 0 ∧ a < a + i) → w_fin xs a i o w tot := fun c1 => by
      unfold w_fin
      rw [if_neg c1] at hg
      refine ⟨fun c2 => ?_, fun c2 => ?_⟩
      · rw [if_pos c2] at hg; exact hg.symm
      · rw [if_neg c2] at hg; exact hg
    split
    · rename_i c1
      split
      · rename_i c2
        refine ⟨xs, a, rfl, ?_, rfl, rfl⟩
        rw [← hg, if_pos ⟨c1, by omega⟩]
      · rename_i c2
        obtain ⟨f1, f2⟩ := fin (by omega)
        walk_at "ds"
        split
        · rename_i c3
          refine ⟨by decide, xs, a, _, _, rfl, f1 c3, ?_⟩
          unfold pairD
          rw [e0]; rfl
        · rename_i c3
          exact ⟨_, _, _, by rw [epw], by omega, by rw [← f2 c3, epw]; rfl⟩
    · rename_i c1
      obtain ⟨f1, f2⟩ := fin (by omega)
      walk_at "ds"
      split
      · rename_i c3
        refine ⟨by decide, xs, a, _, _, rfl, f1 c3, ?_⟩
        unfold pairD
        rw [e0]; rfl
      · rename_i c3
        exact ⟨_, _, _, by rw [epw], by omega, by rw [← f2 c3, epw]; rfl⟩
  · rintro s2 ⟨tot, v4, v5, rfl, hi, hg⟩
    walk_at "ds"
    refine ⟨xs, a, rfl, ?_, rfl, rfl⟩
    rw [← hg]
    rw [rngD_len]
    generalize hk : ((if (xs.length : Int) < a + 9 then (xs.length : Int) else a + 9) - a).toNat = k
    generalize ((128 ^ k : Nat) : Int) = w
    by_cases c : (xs.length : Int) < a + 9
    · rw [if_pos c] at hk
      have e1 : a + k = xs.length := by omega
      rw [e1]
      have : 9 - k = (9 - k - 1) + 1 := by omega
      rw [this]
      unfold goN
      rw [List.getElem?_eq_none (Nat.le_refl _)]
    · rw [if_neg c] at hk
      have : 9 - k = 0 := by omega
      rw [this]
      rfl
theorem go_put_integer : Go_put_integer := by
  rintro as ⟨i, rfl, h1, h2⟩
  unfold w_put_integer
  walk_at "go"
  have pw : (128 ^ 9 : Nat) = 9223372036854775808 := by decide
  split
  · rename_i h
    have e : 2 * i = ((zig i : Nat) : Int) := by unfold zig; rw [if_pos h]; omega
    refine ⟨cmul_small (by decide) (by omega), ⟨zig i, by rw [e], by omega⟩, ?_, fun _ _ z => z.elim⟩
    rintro d ⟨n, e2, rfl⟩
    refine ⟨i, rfl, ?_⟩
    have : zig i = n := by have := PyData.int.inj (AV.d.inj (List.cons.inj e2).1); omega
    rw [this]
  · rename_i h
    have e : -2 * i - 1 = ((zig i : Nat) : Int) := by unfold zig; rw [if_neg h]; omega
    refine ⟨cmul_small (by decide) (by omega), ⟨zig i, by rw [e], by omega⟩, ?_, fun _ _ z => z.elim⟩
    rintro d ⟨n, e2, rfl⟩
    refine ⟨i, rfl, ?_⟩
    have : zig i = n := by have := PyData.int.inj (AV.d.inj (List.cons.inj e2).1); omega
    rw [this]
theorem go_get_integer : Go_get_integer := by
  rintro as ⟨xs, a, rfl, ho, hl, ha⟩
  unfold w_get_integer rdArgs
  walk_at "go"
  refine ⟨⟨xs, a, rfl, ho, hl, ha⟩, ?_, fun c x z => z⟩
  rintro d ⟨xs', a', v, q, e, hg, rfl⟩
  obtain ⟨rfl, rfl⟩ := rd_inj e
  obtain ⟨m, rfl, _, _, _, hm⟩ := getN_some ho hg
  unfold pairD
  walk_at "dw"
  walk_at "ds"
  refine ⟨by decide, ?_⟩
  split
  · rename_i c
    refine ⟨cdiv_small (by decide) (by decide), by decide, xs, a, _, q, rfl, hg, ?_⟩
    unfold zag
    rw [if_pos c]; rfl
  · rename_i c
    walk_at "ds"
    refine ⟨cdiv_small (by decide) (by decide), by decide, xs, a, _, q, rfl, hg, ?_⟩
    unfold zag
    rw [if_neg c]; rfl
end K04

namespace K04
open PySem PySem.Spec
open PyProof.Rows L2 DL DW
local macro_rules | `(tactic| walk_at "dw0") => `(tactic| simp only [DW.startS, DW.AV.sv, List.map_cons, List.map_nil, List.length_cons, List.length_nil, List.replicate_succ, List.replicate_zero, List.cons_append, List.nil_append, Nat.reduceAdd, Nat.reduceSub])
local macro_rules | `(tactic| walk_at "dw") => `(tactic| simp only [DW.wSeq, DW.wNext, DW.wIfS, DW.wRet, DW.wRetN, DW.wBreak, DW.wCont, DW.wSet, DW.wAsg, DW.wNew, DW.wNewL, DW.wNewC, DW.wExpr, DW.wApp, DW.wExt, DW.wExtA, DW.wPop, DW.wAug, DW.wRaise, DW.wVar, DW.wC, DW.wRaw, DW.wOp, DW.wUn, DW.waNil, DW.waCons, DW.wCB, DW.wTup, DW.wLst, DW.wTest, DW.wYes, DW.wAnd, DW.wOr, DW.wNot, DW.wTr, DW.gTr, DW.wAndV, DW.wOrV, DW.wNotV, DW.wIf, DW.rdq, DW.frz, DW.asg, DW.avf, DW.wuNil, DW.wuCons, DW.wCall, DW.wCallK, DW.wgName, DW.wgTup, DW.wgCons, DW.wgNil,
  DW.wParN, DW.wnNil, DW.wnD, DW.wnNew, DW.asgN, DW.gAdd, DW.gSub, DW.gMul, DW.gMod, DW.gDiv, DW.gPow, DW.gLt, DW.gLe, DW.gGt, DW.gGe, DW.gEq, DW.gNe, DW.gInB, DW.gIs, DW.gIsNot, DW.gIx, DW.gNeg, DW.gLen, DW.gToT, DW.gToL, DW.gInt, DW.gAbs, DW.gRepr, DW.gMin2, DW.gMax2, DW.gOrd, DW.gStr, DW.gAddI, DW.gSubI, DW.gIsB, DW.gIsntB, DW.gRep, DW.wJoin, DW.gJoin, DW.wIndex, DW.gIndex, DW.wRg1, DW.wRg2, DW.LT.mk, DW.wiSeq, DW.wiRng1, DW.wiRng2, DW.wiRngB, DW.wiEnumX, DW.wiEnum, DW.wipeS, DL.truth, DL.isNo, DW.wIsi, DW.wSl, DW.gSl, DW.gRev, DW.woNone, DW.woSome, DW.wFor_eq, DW.wLc_eq, DW.wNewLc_eq, DW.one_ord, DW.one_len, DL.oD_len,
  DW.eqv_int, DW.sh_intT, true_and, List.getElem?_cons_zero, List.getElem?_cons_succ, List.set_cons_zero, List.set_cons_succ, List.length_cons, List.length_nil, if_true, if_false, decide_eq_true_eq, Bool.false_eq_true, reduceIte, List.cons_append, List.nil_append, Nat.reduceAdd, Bool.not_true, Bool.not_false])
local macro_rules | `(tactic| walk_at "ds") => `(tactic| repeat ((with_reducible refine DW.Kt_i ?_); (walk_at "dw")))
local macro_rules | `(tactic| walk_at "go") => `(tactic| ((walk_at "dw0"); (walk_at "dw"); (walk_at "ds")))
/-! ### what is read, what is written -/
inductive Rd where
  | ok (v : PyData) (q : Nat) | bad (p : Nat)
def postR (f : List Int → Nat → Rd) (as : List AV) (d : PyData) : Prop := ∃ xs a v q, as = rdArgs xs a ∧ f xs a = .ok v q ∧ d = pairD v q
def excR (f : List Int → Nat → Rd) (as : List AV) (c : Str) (x : PyData) : Prop := ∃ (xs : List Int) (a p : Nat), as = rdArgs xs a ∧ f xs a = .bad p ∧ c = "InvalidOctets" ∧ x = .int p
def goNums (xs : List Int) : Nat → Nat → List Int → Rd
  | 0, p, acc => .ok (.tuple (oD acc)) p
  | k + 1, p, acc => match getN xs p with
    | none => .bad p
    | some (v, q) => goNums xs k q (acc ++ [v])
def rdNums (xs : List Int) (a : Nat) : Rd := match getN xs a with
  | none => .bad a
  | some (m, q) => goNums xs m.toNat q []
def isKeyC (o : Int) : Bool := c_KEY_SIGNS.cps.toList.any fun c => decide ((c : Int) = o)
def isTextC (o : Int) : Bool := c_TEXT_SIGNS.cps.toList.any fun c => decide ((c : Int) = o)
def strOf (w : List Int) : Str := ⟨(w.map Int.toNat).toArray⟩
def wordAt (xs : List Int) (a : Nat) : List Int := (xs.drop a).takeWhile fun o => decide (o ≠ 0)
def keyAt (xs : List Int) (a : Nat) : Option (Str × Nat) := if a + (wordAt xs a).length < xs.length ∧ wordAt xs a ≠ [] ∧ (wordAt xs a).length ≤ 16 ∧ (wordAt xs a).all isKeyC = true then some (strOf (wordAt xs a), a + (wordAt xs a).length + 1) else none
def rdKey (xs : List Int) (a : Nat) : Rd := match keyAt xs a with
  | none => .bad a
  | some (z, q) => .ok (.str z) q
def goText (xs : List Int) : Nat → Nat → List Int → Rd
  | 0, p, w => .ok (.str (strOf w)) p
  | k + 1, p, w => match xs[p]? with
    | none => .bad p
    | some o => if isTextC o = true then goText xs k (p + 1) (w ++ [o]) else .bad p
def rdText (xs : List Int) (a : Nat) : Rd := match getN xs a with
  | none => .bad a
  | some (m, q) => if 32 < m then .bad a else goText xs m.toNat q []
def rdVal (xs : List Int) (a : Nat) : Rd := match xs[a]? with
  | none => .bad a
  | some o => if 2 < o then .bad a else if o = 0 then .ok .none (a + 1) else if o = 2 then rdText xs (a + 1) else match getN xs (a + 1) with
    | none => .bad (a + 1)
    | some (v, q) => if zag v < -1000000000000000000 ∨ 1000000000000000000 < zag v then .bad (a + 1) else .ok (.int (zag v)) q
def prD (p : Str × PyData) : PyData := .tuple [.str p.1, p.2]
def pairsD (ps : List (Str × PyData)) : PyData := .tuple (ps.map prD)
/-- is z no greater than the last key -/
def behind (ps : List (Str × PyData)) (z : Str) : Bool := match ps.getLast? with
  | none => false
  | some p => !sLt p.1 z
def goPairs (xs : List Int) (er : Bool) : Nat → Nat → List (Str × PyData) → Rd
  | 0, p, ps => .ok (pairsD ps) p
  | k + 1, p, ps => match keyAt xs p with
    | none => .bad p
    | some (z, q) => if behind ps z = true then .bad p else match rdVal xs q with
      | .bad r => .bad r
      | .ok v r => if (isNo v && !er) = true then .bad q else goPairs xs er k r (ps ++ [(z, v)])
def rdPairs (er : Bool) (xs : List Int) (a : Nat) : Rd := match getN xs a with
  | none => .bad a
  | some (m, q) => goPairs xs er m.toNat q []
def rdEnd (xs : List Int) (a : Nat) : Rd := match xs[a]? with
  | none => .bad a
  | some o => if 1 < o then .bad a else if o = 0 then .ok .none (a + 1) else rdKey xs (a + 1)
def rdRange (xs : List Int) (a : Nat) : Rd := match rdEnd xs a with
  | .bad p => .bad p
  | .ok lo q => match rdEnd xs q with
    | .bad p => .bad p
    | .ok hi r => .ok (.tuple [lo, hi]) r
def encKey (z : Str) : List Int := codes z ++ [0]
def encText (z : Str) : List Int := figsN z.length ++ codes z
def encVal : PyData → List Int
  | .str z => 2 :: encText z
  | .int i => 1 :: figsN (zig i)
  | _ => [0]
def encNums (ns : List Int) : List Int := figsN ns.length ++ ns.flatMap fun n => figsN n.toNat
def encPairs (ps : List (Str × PyData)) : List Int := figsN ps.length ++ ps.flatMap fun p => encKey p.1 ++ encVal p.2
def encEnd : PyData → List Int
  | .str z => 1 :: encKey z
  | _ => [0]
def encRange (lo hi : PyData) : List Int := encEnd lo ++ encEnd hi
def OkVal : PyData → Prop
  | .none => True
  | .str z => z.length ≤ 32
  | .int i => -(2 ^ 62) ≤ i ∧ i < 2 ^ 62
  | _ => False
def OkEnd : PyData → Prop
  | .none => True
  | .str z => z.length ≤ 16
  | _ => False
def pre_put_numbers (as : List AV) : Prop := ∃ ns : List Int, as = [.d (.tuple (oD ns))] ∧ ns.length < 2 ^ 16 ∧ ∀ n ∈ ns, 0 ≤ n ∧ n < 2 ^ 63
def post_put_numbers (as : List AV) (d : PyData) : Prop := ∃ ns : List Int, as = [.d (.tuple (oD ns))] ∧ d = .tuple (oD (encNums ns))
abbrev exc_put_numbers := noE
theorem len_put_numbers : ∀ as, pre_put_numbers as → as.length = 1 := by rintro as ⟨_, rfl, _⟩; rfl
abbrev pre_get_numbers := preR
abbrev post_get_numbers := postR rdNums
abbrev exc_get_numbers := excR rdNums
abbrev len_get_numbers := len_preR
def pre_put_key (as : List AV) : Prop := ∃ z : Str, as = [.d (.str z)] ∧ z.length ≤ 16
def post_put_key (as : List AV) (d : PyData) : Prop := ∃ z : Str, as = [.d (.str z)] ∧ d = .tuple (oD (encKey z))
abbrev exc_put_key := noE
theorem len_put_key : ∀ as, pre_put_key as → as.length = 1 := by rintro as ⟨_, rfl, _⟩; rfl
abbrev pre_get_key := preR
abbrev post_get_key := postR rdKey
abbrev exc_get_key := excR rdKey
abbrev len_get_key := len_preR
def pre_put_text (as : List AV) : Prop := ∃ z : Str, as = [.d (.str z)] ∧ z.length ≤ 32
def post_put_text (as : List AV) (d : PyData) : Prop := ∃ z : Str, as = [.d (.str z)] ∧ d = .tuple (oD (encText z))
abbrev exc_put_text := noE
theorem len_put_text : ∀ as, pre_put_text as → as.length = 1 := by rintro as ⟨_, rfl, _⟩; rfl
abbrev pre_get_text := preR
abbrev post_get_text := postR rdText
abbrev exc_get_text := excR rdText
abbrev len_get_text := len_preR
def pre_put_value (as : List AV) : Prop := ∃ v, as = [.d v] ∧ OkVal v
def post_put_value (as : List AV) (d : PyData) : Prop := ∃ v, as = [.d v] ∧ d = .tuple (oD (encVal v))
abbrev exc_put_value := noE
theorem len_put_value : ∀ as, pre_put_value as → as.length = 1 := by rintro as ⟨_, rfl, _⟩; rfl
abbrev pre_get_value := preR
abbrev post_get_value := postR rdVal
abbrev exc_get_value := excR rdVal
abbrev len_get_value := len_preR
def pre_put_writes (as : List AV) : Prop := ∃ ps : List (Str × PyData), as = [.d (pairsD ps)] ∧ ps.length < 2 ^ 16 ∧ ∀ p ∈ ps, p.1.length ≤ 16 ∧ OkVal p.2
def post_put_writes (as : List AV) (d : PyData) : Prop := ∃ ps : List (Str × PyData), as = [.d (pairsD ps)] ∧ d = .tuple (oD (encPairs ps))
abbrev exc_put_writes := noE
theorem len_put_writes : ∀ as, pre_put_writes as → as.length = 1 := by rintro as ⟨_, rfl, _⟩; rfl
def pre_get_pairs (as : List AV) : Prop := ∃ xs a b, as = rdArgs xs a ++ [.d (.bool b)] ∧ Oct xs ∧ xs.length < 2 ^ 20 ∧ a ≤ xs.length
def post_get_pairs (as : List AV) (d : PyData) : Prop := ∃ xs a b v q, as = rdArgs xs a ++ [.d (.bool b)] ∧ rdPairs b xs a = .ok v q ∧ d = pairD v q
def exc_get_pairs (as : List AV) (c : Str) (x : PyData) : Prop := ∃ (xs : List Int) (a : Nat) (b : Bool) (p : Nat), as = rdArgs xs a ++ [.d (.bool b)] ∧ rdPairs b xs a = .bad p ∧ c = "InvalidOctets" ∧ x = .int p
theorem len_get_pairs : ∀ as, pre_get_pairs as → as.length = 3 := by rintro as ⟨_, _, _, rfl, _⟩; rfl
abbrev pre_get_writes := preR
abbrev post_get_writes := postR (rdPairs true)
abbrev exc_get_writes := excR (rdPairs true)
abbrev len_get_writes := len_preR
abbrev pre_put_entries := pre_put_writes
abbrev post_put_entries := post_put_writes
abbrev exc_put_entries := exc_put_writes
abbrev len_put_entries := len_put_writes
abbrev pre_get_entries := preR
abbrev post_get_entries := postR (rdPairs false)
abbrev exc_get_entries := excR (rdPairs false)
abbrev len_get_entries := len_preR
def pre_put_end (as : List AV) : Prop := ∃ v, as = [.d v] ∧ OkEnd v
def post_put_end (as : List AV) (d : PyData) : Prop := ∃ v, as = [.d v] ∧ d = .tuple (oD (encEnd v))
abbrev exc_put_end := noE
theorem len_put_end : ∀ as, pre_put_end as → as.length = 1 := by rintro as ⟨_, rfl, _⟩; rfl
abbrev pre_get_end := preR
abbrev post_get_end := postR rdEnd
abbrev exc_get_end := excR rdEnd
abbrev len_get_end := len_preR
def pre_put_range (as : List AV) : Prop := ∃ lo hi, as = [.d (.tuple [lo, hi])] ∧ OkEnd lo ∧ OkEnd hi
def post_put_range (as : List AV) (d : PyData) : Prop := ∃ lo hi, as = [.d (.tuple [lo, hi])] ∧ d = .tuple (oD (encRange lo hi))
abbrev exc_put_range := noE
theorem len_put_range : ∀ as, pre_put_range as → as.length = 1 := by rintro as ⟨_, _, rfl, _⟩; rfl
abbrev pre_get_range := preR
abbrev post_get_range := postR rdRange
abbrev exc_get_range := excR rdRange
abbrev len_get_range := len_preR
section
variable {P : Program} {w : World} {K : PySem.W.Frag} {mg : Str → Option Value} {base : Heap} {f : Addr} {fd : FuncData}
abbrev s_put_numbers : Stmt := top 17
abbrev N_put_numbers : List Str := ["numbers", "octets", "number"]
theorem sc_put_numbers : FnScope N_put_numbers ["numbers"] (defScope s_put_numbers) := ⟨rfl, rfl, rfl, by decide +kernel, rfl, by decide +kernel, by decide +kernel⟩
def w_put_numbers : WS := (wSeq (wNewC 1 (wCall pre_put_number post_put_number exc_put_number (wuCons (wUn gLen (wVar 0)) wuNil)))
 (wSeq (wFor (wiSeq (wVar 0)) (wgName 2)
 (wExtA 1 (wCall pre_put_number post_put_number exc_put_number (wuCons (wVar 2) wuNil))))
 (wRet (wUn gToT (wVar 1)))))
def Go_put_numbers : Prop := ∀ as, pre_put_numbers as → w_put_numbers (startS 3 as) ⟨fun _ => post_put_numbers as .none, fun d _ => post_put_numbers as d, fun _ => False, fun _ => False, fun c x _ => exc_put_numbers as c x⟩
theorem ok_put_numbers (go : Go_put_numbers) (F : FnP K "put_numbers" s_put_numbers f fd) (T : Fx mg) (C_put_number : Ca5 P w K mg base (L2.CX P w) 1 "put_number" ["number"] (spU K (erL K) anyM pre_put_number post_put_number exc_put_number)) : FnG P w K mg base (L2.CX P w) 2 f fd ["numbers"] (spU K (erL K) anyM pre_put_numbers post_put_numbers exc_put_numbers) := by
  have nd := sc_put_numbers.nd
  refine fn_w (ws := w_put_numbers) F sc_put_numbers len_put_numbers (by decide) (fun cdv A out s H E hG hr => ?_) go
  exact ⟨_, (dss_cons (ds_newC (i := 1) nd rfl (Or.inl rfl) (cl_lstK K rfl) T.b_list (de_call C_put_number hG (hr.mono (by decide)) (passW (takes_of rfl rfl rfl rfl)) (fun _ _ => trivial) (du_cons (de_b1 (cl_lenK K rfl) us_len T.b_len (de_var (pv 0))) du_nil)))
 (dss_cons (ds_for (passes_of rfl) rfl (di_seq rfl (de_var (pv 0))) (dg_name (pg_name (i := 2) nd rfl (Or.inl rfl)))
 (dss_one (ds_extA rfl (fun h => ps_expr (pe_bm PySem.F.plainAttrs_list PySem.F.slot_list_extend PySem.F.type_list_extend mt_extA (pv 1) h)) (de_call C_put_number hG (hr.mono (by decide)) (passW (takes_of rfl rfl rfl rfl)) (fun _ _ => trivial) (du_cons (de_var (pv 2)) du_nil)))))
 (dss_one (ds_ret (de_t1 (cl_tupK K rfl) us_tup T.b_tuple (de_var (pv 1)))))))⟩

abbrev s_get_numbers : Stmt := top 18
abbrev N_get_numbers : List Str := ["octets", "at", "many", "here", "numbers", "_", "number"]
theorem sc_get_numbers : FnScope N_get_numbers ["octets", "at"] (defScope s_get_numbers) := ⟨rfl, rfl, rfl, by decide +kernel, rfl, by decide +kernel, by decide +kernel⟩
def w_get_numbers : WS := (wSeq (wAsg (wCall pre_get_number post_get_number exc_get_number (wuCons (wVar 0) (wuCons (wVar 1) wuNil))) (wgTup 2 (wgCons (wgName 2) (wgCons (wgName 3) wgNil))))
 (wSeq (wNew 4)
 (wSeq (wFor (wiRngB (waCons (wVar 2) waNil)) (wgName 5)
 (wSeq (wAsg (wCall pre_get_number post_get_number exc_get_number (wuCons (wVar 0) (wuCons (wVar 3) wuNil))) (wgTup 2 (wgCons (wgName 6) (wgCons (wgName 3) wgNil))))
 (wApp 4 (wVar 6))))
 (wRet (wTup (waCons (wUn gToT (wVar 4)) (waCons (wVar 3) waNil)))))))
def Go_get_numbers : Prop := ∀ as, pre_get_numbers as → w_get_numbers (startS 7 as) ⟨fun _ => post_get_numbers as .none, fun d _ => post_get_numbers as d, fun _ => False, fun _ => False, fun c x _ => exc_get_numbers as c x⟩
theorem ok_get_numbers (go : Go_get_numbers) (F : FnP K "get_numbers" s_get_numbers f fd) (T : Fx mg) (C_get_number : Ca5 P w K mg base (L2.CX P w) 3 "get_number" ["octets", "at"] (spU K (erL K) anyM pre_get_number post_get_number exc_get_number)) : FnG P w K mg base (L2.CX P w) 4 f fd ["octets", "at"] (spU K (erL K) anyM pre_get_numbers post_get_numbers exc_get_numbers) := by
  have nd := sc_get_numbers.nd
  refine fn_w (ws := w_get_numbers) F sc_get_numbers len_get_numbers (by decide) (fun cdv A out s H E hG hr => ?_) go
  exact ⟨_, (dss_cons (ds_asg (de_call C_get_number hG (hr.mono (by decide)) (passW (takes_of rfl rfl rfl rfl)) (fun _ _ => trivial) (du_cons (de_var (pv 0)) (du_cons (de_var (pv 1)) du_nil))) (dg_tup rfl rfl (dgs_cons (dg_name (pg_name (i := 2) nd rfl (Or.inl rfl))) (dgs_cons (dg_name (pg_name (i := 3) nd rfl (Or.inl rfl))) dgs_nil))))
 (dss_cons (ds_new (i := 4) nd rfl (Or.inl rfl))
 (dss_cons (ds_for (passes_of rfl) rfl (di_rngB rfl T.b_range (da_cons' (de_var (pv 2)) da_nil')) (dg_name (pg_name (i := 5) nd rfl (Or.inl rfl)))
 (dss_cons (ds_asg (de_call C_get_number hG (hr.mono (by decide)) (passW (takes_of rfl rfl rfl rfl)) (fun _ _ => trivial) (du_cons (de_var (pv 0)) (du_cons (de_var (pv 3)) du_nil))) (dg_tup rfl rfl (dgs_cons (dg_name (pg_name (i := 6) nd rfl (Or.inl rfl))) (dgs_cons (dg_name (pg_name (i := 3) nd rfl (Or.inl rfl))) dgs_nil))))
 (dss_one (ds_appD rfl (fun h => ps_expr (pe_bm PySem.F.plainAttrs_list PySem.F.slot_list_append PySem.F.type_list_append mt_append (pv 4) h)) (de_var (pv 6))))))
 (dss_one (ds_ret (de_tup (da_cons' (de_t1 (cl_tupK K rfl) us_tup T.b_tuple (de_var (pv 4))) (da_cons' (de_var (pv 3)) da_nil'))))))))⟩

abbrev s_put_key : Stmt := top 19
abbrev N_put_key : List Str := ["key"]
theorem sc_put_key : FnScope N_put_key ["key"] (defScope s_put_key) := ⟨rfl, rfl, rfl, by decide +kernel, rfl, by decide +kernel, by decide +kernel⟩
def w_put_key : WS := (wRet (wOp gAdd (wCall pre_codes_of post_codes_of exc_codes_of (wuCons (wVar 0) wuNil)) (wTup (waCons (wC (.int 0)) waNil))))
def Go_put_key : Prop := ∀ as, pre_put_key as → w_put_key (startS 1 as) ⟨fun _ => post_put_key as .none, fun d _ => post_put_key as d, fun _ => False, fun _ => False, fun c x _ => exc_put_key as c x⟩
theorem ok_put_key (go : Go_put_key) (F : FnP K "put_key" s_put_key f fd) (T : Fx mg) (C_codes_of : Ca5 P w K mg base (L2.CX P w) 1 "codes_of" ["text"] (spU K (erL K) anyM pre_codes_of post_codes_of exc_codes_of)) : FnG P w K mg base (L2.CX P w) 2 f fd ["key"] (spU K (erL K) anyM pre_put_key post_put_key exc_put_key) := by
  have nd := sc_put_key.nd
  refine fn_w (ws := w_put_key) F sc_put_key len_put_key (by decide) (fun cdv A out s H E hG hr => ?_) go
  exact ⟨_, (dss_one (ds_ret (de_op (op_addW rfl) os_add (de_call C_codes_of hG (hr.mono (by decide)) (passW (takes_of rfl rfl rfl rfl)) (fun _ _ => trivial) (du_cons (de_var (pv 0)) du_nil)) (de_tup (da_cons' (de_int pe_int) da_nil')))))⟩

abbrev s_get_key : Stmt := top 20
abbrev N_get_key : List Str := ["octets", "at", "signs", "here", "sign"]
theorem sc_get_key : FnScope N_get_key ["octets", "at"] (defScope s_get_key) := ⟨rfl, rfl, rfl, by decide +kernel, rfl, by decide +kernel, by decide +kernel⟩
def w_get_key : WS := (wSeq (wNew 2)
 (wSeq (wSet 3 (wVar 1))
 (wSeq (wWhile (wAnd (wTest (wOp gLt (wVar 3) (wUn gLen (wVar 0)))) (wTest (wOp gNe (wOp gIx (wVar 0) (wVar 3)) (wC (.int 0)))))
 (wSeq (wSet 4 (wCall pre_sign_at post_sign_at exc_sign_at (wuCons (wVar 0) (wuCons (wVar 3) (wuCons (wC (.str c_KEY_SIGNS)) wuNil)))))
 (wSeq (wIfS (wOr (wTest (wOp gIs (wVar 4) (wC .none))) (wTest (wOp gEq (wUn gLen (wVar 2)) (wC (.int 16))))) (wRaise "InvalidOctets" (wVar 1))
 wNext)
 (wSeq (wApp 2 (wVar 4))
 (wAug 3 gAddI (wC (.int 1)))))))
 (wSeq (wIfS (wOr (wTest (wOp gEq (wVar 3) (wUn gLen (wVar 0)))) (wNot (wTr (wVar 2)))) (wRaise "InvalidOctets" (wVar 1))
 wNext)
 (wRet (wTup (waCons (wJoin (wC (.str "")) (wVar 2)) (waCons (wOp gAdd (wVar 3) (wC (.int 1))) waNil))))))))
def Go_get_key : Prop := ∀ as, pre_get_key as → w_get_key (startS 5 as) ⟨fun _ => post_get_key as .none, fun d _ => post_get_key as d, fun _ => False, fun _ => False, fun c x _ => exc_get_key as c x⟩
theorem ok_get_key (go : Go_get_key) (F : FnP K "get_key" s_get_key f fd) (T : Fx mg) (C_sign_at : Ca5 P w K mg base (L2.CX P w) 1 "sign_at" ["octets", "at", "signs"] (spU K (erL K) anyM pre_sign_at post_sign_at exc_sign_at)) (R_InvalidOctets : Er P w K mg base "InvalidOctets" ((erL K).cl "InvalidOctets") "at") : FnG P w K mg base (L2.CX P w) 3 f fd ["octets", "at"] (spU K (erL K) anyM pre_get_key post_get_key exc_get_key) := by
  have nd := sc_get_key.nd
  refine fn_w (ws := w_get_key) F sc_get_key len_get_key (by decide) (fun cdv A out s H E hG hr => ?_) go
  exact ⟨_, (dss_cons (ds_new (i := 2) nd rfl (Or.inl rfl))
 (dss_cons (ds_set (i := 3) nd rfl (Or.inl rfl) (de_var (pv 1)))
 (dss_cons (ds_while (passes_of rfl) (dt_w (dw_and (dt_cmp op_ltW os_lt (nomark _) (de_var (pv 3)) (de_b1 (cl_lenK K rfl) us_len T.b_len (de_var (pv 0)))) (dw_and1 (dt_cmp (op_neW rfl (hu64 hr)) os_ne (nomark _) (de_ix rfl (de_var (pv 0)) (de_var (pv 3))) (de_int pe_int)))))
 (dss_cons (ds_set (i := 4) nd rfl (Or.inl rfl) (de_call C_sign_at hG (hr.mono (by decide)) (passW (takes_of rfl rfl rfl rfl)) (fun _ _ => trivial) (du_cons (de_var (pv 0)) (du_cons (de_var (pv 3)) (du_cons (de_str (xGS T.c_KEY_SIGNS)) du_nil)))))
 (dss_cons (ds_if (dt_w (dw_or (dt_cmp op_isNo os_is (nomark _) (de_var (pv 4)) (de_non pe_non)) (dw_or1 (dt_cmp (op_eqW rfl (hu64 hr)) os_eq (nomark _) (de_b1 (cl_lenK K rfl) us_len T.b_len (de_var (pv 2))) (de_int (xGI T.c_MOST_KEY_SIGNS)))))) (dss_one (ds_raise R_InvalidOctets rfl rfl rfl (takes_of rfl rfl rfl rfl) (hr.mono (by decide)) (de_var (pv 1))))
 dss_nil)
 (dss_cons (ds_appD rfl (fun h => ps_expr (pe_bm PySem.F.plainAttrs_list PySem.F.slot_list_append PySem.F.type_list_append mt_append (pv 2) h)) (de_var (pv 4)))
 (dss_one (ds_augD (i := 3) nd rfl (Or.inl rfl) ip_add os_ipadd (de_int pe_int)))))))
 (dss_cons (ds_if (dt_w (dw_or (dt_cmp (op_eqW rfl (hu64 hr)) os_eq (nomark _) (de_var (pv 3)) (de_b1 (cl_lenK K rfl) us_len T.b_len (de_var (pv 0)))) (dw_or1 (dt_not (dt_tr rfl (de_var (pv 2))))))) (dss_one (ds_raise R_InvalidOctets rfl rfl rfl (takes_of rfl rfl rfl rfl) (hr.mono (by decide)) (de_var (pv 1))))
 dss_nil)
 (dss_one (ds_ret (de_tup (da_cons' (de_join rfl (de_str pe_str) (de_var (pv 2))) (da_cons' (de_op (op_addW rfl) os_add (de_var (pv 3)) (de_int pe_int)) da_nil')))))))))⟩

abbrev s_put_text : Stmt := top 21
abbrev N_put_text : List Str := ["text"]
theorem sc_put_text : FnScope N_put_text ["text"] (defScope s_put_text) := ⟨rfl, rfl, rfl, by decide +kernel, rfl, by decide +kernel, by decide +kernel⟩
def w_put_text : WS := (wRet (wOp gAdd (wCall pre_put_number post_put_number exc_put_number (wuCons (wUn gLen (wVar 0)) wuNil)) (wCall pre_codes_of post_codes_of exc_codes_of (wuCons (wVar 0) wuNil))))
def Go_put_text : Prop := ∀ as, pre_put_text as → w_put_text (startS 1 as) ⟨fun _ => post_put_text as .none, fun d _ => post_put_text as d, fun _ => False, fun _ => False, fun c x _ => exc_put_text as c x⟩
theorem ok_put_text (go : Go_put_text) (F : FnP K "put_text" s_put_text f fd) (T : Fx mg) (C_put_number : Ca5 P w K mg base (L2.CX P w) 1 "put_number" ["number"] (spU K (erL K) anyM pre_put_number post_put_number exc_put_number)) (C_codes_of : Ca5 P w K mg base (L2.CX P w) 1 "codes_of" ["text"] (spU K (erL K) anyM pre_codes_of post_codes_of exc_codes_of)) : FnG P w K mg base (L2.CX P w) 2 f fd ["text"] (spU K (erL K) anyM pre_put_text post_put_text exc_put_text) := by
  have nd := sc_put_text.nd
  refine fn_w (ws := w_put_text) F sc_put_text len_put_text (by decide) (fun cdv A out s H E hG hr => ?_) go
  exact ⟨_, (dss_one (ds_ret (de_op (op_addW rfl) os_add (de_call C_put_number hG (hr.mono (by decide)) (passW (takes_of rfl rfl rfl rfl)) (fun _ _ => trivial) (du_cons (de_b1 (cl_lenK K rfl) us_len T.b_len (de_var (pv 0))) du_nil)) (de_call C_codes_of hG (hr.mono (by decide)) (passW (takes_of rfl rfl rfl rfl)) (fun _ _ => trivial) (du_cons (de_var (pv 0)) du_nil)))))⟩

abbrev s_get_text : Stmt := top 22
abbrev N_get_text : List Str := ["octets", "at", "many", "start", "signs", "here", "sign"]
theorem sc_get_text : FnScope N_get_text ["octets", "at"] (defScope s_get_text) := ⟨rfl, rfl, rfl, by decide +kernel, rfl, by decide +kernel, by decide +kernel⟩
def w_get_text : WS := (wSeq (wAsg (wCall pre_get_number post_get_number exc_get_number (wuCons (wVar 0) (wuCons (wVar 1) wuNil))) (wgTup 2 (wgCons (wgName 2) (wgCons (wgName 3) wgNil))))
 (wSeq (wIfS (wTest (wOp gGt (wVar 2) (wC (.int 32)))) (wRaise "InvalidOctets" (wVar 1))
 wNext)
 (wSeq (wNew 4)
 (wSeq (wFor (wiRng2 (waCons (wVar 3) (waCons (wOp gAdd (wVar 3) (wVar 2)) waNil))) (wgName 5)
 (wSeq (wSet 6 (wCall pre_sign_at post_sign_at exc_sign_at (wuCons (wVar 0) (wuCons (wVar 5) (wuCons (wC (.str c_TEXT_SIGNS)) wuNil)))))
 (wSeq (wIfS (wTest (wOp gIs (wVar 6) (wC .none))) (wRaise "InvalidOctets" (wVar 5))
 wNext)
 (wApp 4 (wVar 6)))))
 (wRet (wTup (waCons (wJoin (wC (.str "")) (wVar 4)) (waCons (wOp gAdd (wVar 3) (wVar 2)) waNil))))))))
def Go_get_text : Prop := ∀ as, pre_get_text as → w_get_text (startS 7 as) ⟨fun _ => post_get_text as .none, fun d _ => post_get_text as d, fun _ => False, fun _ => False, fun c x _ => exc_get_text as c x⟩
theorem ok_get_text (go : Go_get_text) (F : FnP K "get_text" s_get_text f fd) (T : Fx mg) (C_get_number : Ca5 P w K mg base (L2.CX P w) 3 "get_number" ["octets", "at"] (spU K (erL K) anyM pre_get_number post_get_number exc_get_number)) (C_sign_at : Ca5 P w K mg base (L2.CX P w) 1 "sign_at" ["octets", "at", "signs"] (spU K (erL K) anyM pre_sign_at post_sign_at exc_sign_at)) (R_InvalidOctets : Er P w K mg base "InvalidOctets" ((erL K).cl "InvalidOctets") "at") : FnG P w K mg base (L2.CX P w) 4 f fd ["octets", "at"] (spU K (erL K) anyM pre_get_text post_get_text exc_get_text) := by
  have nd := sc_get_text.nd
  refine fn_w (ws := w_get_text) F sc_get_text len_get_text (by decide) (fun cdv A out s H E hG hr => ?_) go
  exact ⟨_, (dss_cons (ds_asg (de_call C_get_number hG (hr.mono (by decide)) (passW (takes_of rfl rfl rfl rfl)) (fun _ _ => trivial) (du_cons (de_var (pv 0)) (du_cons (de_var (pv 1)) du_nil))) (dg_tup rfl rfl (dgs_cons (dg_name (pg_name (i := 2) nd rfl (Or.inl rfl))) (dgs_cons (dg_name (pg_name (i := 3) nd rfl (Or.inl rfl))) dgs_nil))))
 (dss_cons (ds_if (dt_cmp op_gtW os_gt (nomark _) (de_var (pv 2)) (de_int (xGI T.c_MOST_TEXT_SIGNS))) (dss_one (ds_raise R_InvalidOctets rfl rfl rfl (takes_of rfl rfl rfl rfl) (hr.mono (by decide)) (de_var (pv 1))))
 dss_nil)
 (dss_cons (ds_new (i := 4) nd rfl (Or.inl rfl))
 (dss_cons (ds_for (passes_of rfl) rfl (di_rng2 rfl T.b_range (da_cons' (de_var (pv 3)) (da_cons' (de_op (op_addW rfl) os_add (de_var (pv 3)) (de_var (pv 2))) da_nil'))) (dg_name (pg_name (i := 5) nd rfl (Or.inl rfl)))
 (dss_cons (ds_set (i := 6) nd rfl (Or.inl rfl) (de_call C_sign_at hG (hr.mono (by decide)) (passW (takes_of rfl rfl rfl rfl)) (fun _ _ => trivial) (du_cons (de_var (pv 0)) (du_cons (de_var (pv 5)) (du_cons (de_str (xGS T.c_TEXT_SIGNS)) du_nil)))))
 (dss_cons (ds_if (dt_cmp op_isNo os_is (nomark _) (de_var (pv 6)) (de_non pe_non)) (dss_one (ds_raise R_InvalidOctets rfl rfl rfl (takes_of rfl rfl rfl rfl) (hr.mono (by decide)) (de_var (pv 5))))
 dss_nil)
 (dss_one (ds_appD rfl (fun h => ps_expr (pe_bm PySem.F.plainAttrs_list PySem.F.slot_list_append PySem.F.type_list_append mt_append (pv 4) h)) (de_var (pv 6)))))))
 (dss_one (ds_ret (de_tup (da_cons' (de_join rfl (de_str pe_str) (de_var (pv 4))) (da_cons' (de_op (op_addW rfl) os_add (de_var (pv 3)) (de_var (pv 2))) da_nil')))))))))⟩

abbrev s_put_value : Stmt := top 23
abbrev N_put_value : List Str := ["value"]
theorem sc_put_value : FnScope N_put_value ["value"] (defScope s_put_value) := ⟨rfl, rfl, rfl, by decide +kernel, rfl, by decide +kernel, by decide +kernel⟩
def w_put_value : WS := (wSeq (wIfS (wTest (wOp gIs (wVar 0) (wC .none))) (wRet (wTup (waCons (wC (.int 0)) waNil)))
 wNext)
 (wSeq (wIfS (wTest (wIsi "str" (wVar 0))) (wRet (wOp gAdd (wTup (waCons (wC (.int 2)) waNil)) (wCall pre_put_text post_put_text exc_put_text (wuCons (wVar 0) wuNil))))
 wNext)
 (wRet (wOp gAdd (wTup (waCons (wC (.int 1)) waNil)) (wCall pre_put_integer post_put_integer exc_put_integer (wuCons (wVar 0) wuNil))))))
def Go_put_value : Prop := ∀ as, pre_put_value as → w_put_value (startS 1 as) ⟨fun _ => post_put_value as .none, fun d _ => post_put_value as d, fun _ => False, fun _ => False, fun c x _ => exc_put_value as c x⟩
theorem ok_put_value (go : Go_put_value) (F : FnP K "put_value" s_put_value f fd) (T : Fx mg) (C_put_text : Ca5 P w K mg base (L2.CX P w) 2 "put_text" ["text"] (spU K (erL K) anyM pre_put_text post_put_text exc_put_text)) (C_put_integer : Ca5 P w K mg base (L2.CX P w) 2 "put_integer" ["integer"] (spU K (erL K) anyM pre_put_integer post_put_integer exc_put_integer)) : FnG P w K mg base (L2.CX P w) 3 f fd ["value"] (spU K (erL K) anyM pre_put_value post_put_value exc_put_value) := by
  have nd := sc_put_value.nd
  refine fn_w (ws := w_put_value) F sc_put_value len_put_value (by decide) (fun cdv A out s H E hG hr => ?_) go
  exact ⟨_, (dss_cons (ds_if (dt_cmp op_isNo os_is (nomark _) (de_var (pv 0)) (de_non pe_non)) (dss_one (ds_ret (de_tup (da_cons' (de_int pe_int) da_nil'))))
 dss_nil)
 (dss_cons (ds_if (dt_val (de_isi (n := "str") rfl (by decide) T.b_isinstance (de_var (pv 0)) (pe_bltn (v := .ty "str") rfl T.b_str rfl rfl))) (dss_one (ds_ret (de_op (op_addW rfl) os_add (de_tup (da_cons' (de_int pe_int) da_nil')) (de_call C_put_text hG (hr.mono (by decide)) (passW (takes_of rfl rfl rfl rfl)) (fun _ _ => trivial) (du_cons (de_var (pv 0)) du_nil)))))
 dss_nil)
 (dss_one (ds_ret (de_op (op_addW rfl) os_add (de_tup (da_cons' (de_int pe_int) da_nil')) (de_call C_put_integer hG (hr.mono (by decide)) (passW (takes_of rfl rfl rfl rfl)) (fun _ _ => trivial) (du_cons (de_var (pv 0)) du_nil)))))))⟩

abbrev s_get_value : Stmt := top 24
abbrev N_get_value : List Str := ["octets", "at", "integer", "behind"]
theorem sc_get_value : FnScope N_get_value ["octets", "at"] (defScope s_get_value) := ⟨rfl, rfl, rfl, by decide +kernel, rfl, by decide +kernel, by decide +kernel⟩
def w_get_value : WS := (wSeq (wIfS (wOr (wTest (wOp gGe (wVar 1) (wUn gLen (wVar 0)))) (wTest (wOp gGt (wOp gIx (wVar 0) (wVar 1)) (wC (.int 2))))) (wRaise "InvalidOctets" (wVar 1))
 wNext)
 (wSeq (wIfS (wTest (wOp gEq (wOp gIx (wVar 0) (wVar 1)) (wC (.int 0)))) (wRet (wTup (waCons (wC .none) (waCons (wOp gAdd (wVar 1) (wC (.int 1))) waNil))))
 wNext)
 (wSeq (wIfS (wTest (wOp gEq (wOp gIx (wVar 0) (wVar 1)) (wC (.int 2)))) (wRet (wCall pre_get_text post_get_text exc_get_text (wuCons (wVar 0) (wuCons (wOp gAdd (wVar 1) (wC (.int 1))) wuNil))))
 wNext)
 (wSeq (wAsg (wCall pre_get_integer post_get_integer exc_get_integer (wuCons (wVar 0) (wuCons (wOp gAdd (wVar 1) (wC (.int 1))) wuNil))) (wgTup 2 (wgCons (wgName 2) (wgCons (wgName 3) wgNil))))
 (wSeq (wIfS (wOr (wTest (wOp gLt (wVar 2) (wUn gNeg (wC (.int 1000000000000000000))))) (wTest (wOp gGt (wVar 2) (wC (.int 1000000000000000000))))) (wRaise "InvalidOctets" (wOp gAdd (wVar 1) (wC (.int 1))))
 wNext)
 (wRet (wTup (waCons (wVar 2) (waCons (wVar 3) waNil)))))))))
def Go_get_value : Prop := ∀ as, pre_get_value as → w_get_value (startS 4 as) ⟨fun _ => post_get_value as .none, fun d _ => post_get_value as d, fun _ => False, fun _ => False, fun c x _ => exc_get_value as c x⟩
theorem ok_get_value (go : Go_get_value) (F : FnP K "get_value" s_get_value f fd) (T : Fx mg) (C_get_text : Ca5 P w K mg base (L2.CX P w) 4 "get_text" ["octets", "at"] (spU K (erL K) anyM pre_get_text post_get_text exc_get_text)) (C_get_integer : Ca5 P w K mg base (L2.CX P w) 4 "get_integer" ["octets", "at"] (spU K (erL K) anyM pre_get_integer post_get_integer exc_get_integer)) (R_InvalidOctets : Er P w K mg base "InvalidOctets" ((erL K).cl "InvalidOctets") "at") : FnG P w K mg base (L2.CX P w) 5 f fd ["octets", "at"] (spU K (erL K) anyM pre_get_value post_get_value exc_get_value) := by
  have nd := sc_get_value.nd
  refine fn_w (ws := w_get_value) F sc_get_value len_get_value (by decide) (fun cdv A out s H E hG hr => ?_) go
  exact ⟨_, (dss_cons (ds_if (dt_w (dw_or (dt_cmp op_geW os_ge (nomark _) (de_var (pv 1)) (de_b1 (cl_lenK K rfl) us_len T.b_len (de_var (pv 0)))) (dw_or1 (dt_cmp op_gtW os_gt (nomark _) (de_ix rfl (de_var (pv 0)) (de_var (pv 1))) (de_int pe_int))))) (dss_one (ds_raise R_InvalidOctets rfl rfl rfl (takes_of rfl rfl rfl rfl) (hr.mono (by decide)) (de_var (pv 1))))
 dss_nil)
 (dss_cons (ds_if (dt_cmp (op_eqW rfl (hu64 hr)) os_eq (nomark _) (de_ix rfl (de_var (pv 0)) (de_var (pv 1))) (de_int pe_int)) (dss_one (ds_ret (de_tup (da_cons' (de_non pe_non) (da_cons' (de_op (op_addW rfl) os_add (de_var (pv 1)) (de_int pe_int)) da_nil')))))
 dss_nil)
 (dss_cons (ds_if (dt_cmp (op_eqW rfl (hu64 hr)) os_eq (nomark _) (de_ix rfl (de_var (pv 0)) (de_var (pv 1))) (de_int pe_int)) (dss_one (ds_ret (de_call C_get_text hG (hr.mono (by decide)) (passW (takes_of rfl rfl rfl rfl)) (fun _ _ => trivial) (du_cons (de_var (pv 0)) (du_cons (de_op (op_addW rfl) os_add (de_var (pv 1)) (de_int pe_int)) du_nil)))))
 dss_nil)
 (dss_cons (ds_asg (de_call C_get_integer hG (hr.mono (by decide)) (passW (takes_of rfl rfl rfl rfl)) (fun _ _ => trivial) (du_cons (de_var (pv 0)) (du_cons (de_op (op_addW rfl) os_add (de_var (pv 1)) (de_int pe_int)) du_nil))) (dg_tup rfl rfl (dgs_cons (dg_name (pg_name (i := 2) nd rfl (Or.inl rfl))) (dgs_cons (dg_name (pg_name (i := 3) nd rfl (Or.inl rfl))) dgs_nil))))
 (dss_cons (ds_if (dt_w (dw_or (dt_cmp op_ltW os_lt (nomark _) (de_var (pv 2)) (de_un un_neg us_neg (de_int (xGI T.c_GREATEST_VALUE)))) (dw_or1 (dt_cmp op_gtW os_gt (nomark _) (de_var (pv 2)) (de_int (xGI T.c_GREATEST_VALUE)))))) (dss_one (ds_raise R_InvalidOctets rfl rfl rfl (takes_of rfl rfl rfl rfl) (hr.mono (by decide)) (de_op (op_addW rfl) os_add (de_var (pv 1)) (de_int pe_int))))
 dss_nil)
 (dss_one (ds_ret (de_tup (da_cons' (de_var (pv 2)) (da_cons' (de_var (pv 3)) da_nil'))))))))))⟩

abbrev s_put_writes : Stmt := top 25
abbrev N_put_writes : List Str := ["pairs", "octets", "key", "value"]
theorem sc_put_writes : FnScope N_put_writes ["pairs"] (defScope s_put_writes) := ⟨rfl, rfl, rfl, by decide +kernel, rfl, by decide +kernel, by decide +kernel⟩
def w_put_writes : WS := (wSeq (wNewC 1 (wCall pre_put_number post_put_number exc_put_number (wuCons (wUn gLen (wVar 0)) wuNil)))
 (wSeq (wFor (wiSeq (wVar 0)) (wgTup 2 (wgCons (wgName 2) (wgCons (wgName 3) wgNil)))
 (wSeq (wExtA 1 (wCall pre_put_key post_put_key exc_put_key (wuCons (wVar 2) wuNil)))
 (wExtA 1 (wCall pre_put_value post_put_value exc_put_value (wuCons (wVar 3) wuNil)))))
 (wRet (wUn gToT (wVar 1)))))
def Go_put_writes : Prop := ∀ as, pre_put_writes as → w_put_writes (startS 4 as) ⟨fun _ => post_put_writes as .none, fun d _ => post_put_writes as d, fun _ => False, fun _ => False, fun c x _ => exc_put_writes as c x⟩
theorem ok_put_writes (go : Go_put_writes) (F : FnP K "put_writes" s_put_writes f fd) (T : Fx mg) (C_put_number : Ca5 P w K mg base (L2.CX P w) 1 "put_number" ["number"] (spU K (erL K) anyM pre_put_number post_put_number exc_put_number)) (C_put_key : Ca5 P w K mg base (L2.CX P w) 2 "put_key" ["key"] (spU K (erL K) anyM pre_put_key post_put_key exc_put_key)) (C_put_value : Ca5 P w K mg base (L2.CX P w) 3 "put_value" ["value"] (spU K (erL K) anyM pre_put_value post_put_value exc_put_value)) : FnG P w K mg base (L2.CX P w) 4 f fd ["pairs"] (spU K (erL K) anyM pre_put_writes post_put_writes exc_put_writes) := by
  have nd := sc_put_writes.nd
  refine fn_w (ws := w_put_writes) F sc_put_writes len_put_writes (by decide) (fun cdv A out s H E hG hr => ?_) go
  exact ⟨_, (dss_cons (ds_newC (i := 1) nd rfl (Or.inl rfl) (cl_lstK K rfl) T.b_list (de_call C_put_number hG (hr.mono (by decide)) (passW (takes_of rfl rfl rfl rfl)) (fun _ _ => trivial) (du_cons (de_b1 (cl_lenK K rfl) us_len T.b_len (de_var (pv 0))) du_nil)))
 (dss_cons (ds_for (passes_of rfl) rfl (di_seq rfl (de_var (pv 0))) (dg_tup rfl rfl (dgs_cons (dg_name (pg_name (i := 2) nd rfl (Or.inl rfl))) (dgs_cons (dg_name (pg_name (i := 3) nd rfl (Or.inl rfl))) dgs_nil)))
 (dss_cons (ds_extA rfl (fun h => ps_expr (pe_bm PySem.F.plainAttrs_list PySem.F.slot_list_extend PySem.F.type_list_extend mt_extA (pv 1) h)) (de_call C_put_key hG (hr.mono (by decide)) (passW (takes_of rfl rfl rfl rfl)) (fun _ _ => trivial) (du_cons (de_var (pv 2)) du_nil)))
 (dss_one (ds_extA rfl (fun h => ps_expr (pe_bm PySem.F.plainAttrs_list PySem.F.slot_list_extend PySem.F.type_list_extend mt_extA (pv 1) h)) (de_call C_put_value hG (hr.mono (by decide)) (passW (takes_of rfl rfl rfl rfl)) (fun _ _ => trivial) (du_cons (de_var (pv 3)) du_nil))))))
 (dss_one (ds_ret (de_t1 (cl_tupK K rfl) us_tup T.b_tuple (de_var (pv 1)))))))⟩

abbrev s_get_pairs : Stmt := top 26
abbrev N_get_pairs : List Str := ["octets", "at", "may_erase", "many", "here", "pairs", "_", "key", "place", "value"]
theorem sc_get_pairs : FnScope N_get_pairs ["octets", "at", "may_erase"] (defScope s_get_pairs) := ⟨rfl, rfl, rfl, by decide +kernel, rfl, by decide +kernel, by decide +kernel⟩
def w_get_pairs : WS := (wSeq (wAsg (wCall pre_get_number post_get_number exc_get_number (wuCons (wVar 0) (wuCons (wVar 1) wuNil))) (wgTup 2 (wgCons (wgName 3) (wgCons (wgName 4) wgNil))))
 (wSeq (wNew 5)
 (wSeq (wFor (wiRngB (waCons (wVar 3) waNil)) (wgName 6)
 (wSeq (wAsg (wCall pre_get_key post_get_key exc_get_key (wuCons (wVar 0) (wuCons (wVar 4) wuNil))) (wgTup 2 (wgCons (wgName 7) (wgCons (wgName 8) wgNil))))
 (wSeq (wIfS (wAnd (wTr (wVar 5)) (wTest (wOp gLe (wVar 7) (wOp gIx (wOp gIx (wVar 5) (wUn gNeg (wC (.int 1)))) (wC (.int 0)))))) (wRaise "InvalidOctets" (wVar 4))
 wNext)
 (wSeq (wAsg (wCall pre_get_value post_get_value exc_get_value (wuCons (wVar 0) (wuCons (wVar 8) wuNil))) (wgTup 2 (wgCons (wgName 9) (wgCons (wgName 4) wgNil))))
 (wSeq (wIfS (wAnd (wTest (wOp gIs (wVar 9) (wC .none))) (wNot (wTr (wVar 2)))) (wRaise "InvalidOctets" (wVar 8))
 wNext)
 (wApp 5 (wTup (waCons (wVar 7) (waCons (wVar 9) waNil)))))))))
 (wRet (wTup (waCons (wUn gToT (wVar 5)) (waCons (wVar 4) waNil)))))))
def Go_get_pairs : Prop := ∀ as, pre_get_pairs as → w_get_pairs (startS 10 as) ⟨fun _ => post_get_pairs as .none, fun d _ => post_get_pairs as d, fun _ => False, fun _ => False, fun c x _ => exc_get_pairs as c x⟩
theorem ok_get_pairs (go : Go_get_pairs) (F : FnP K "get_pairs" s_get_pairs f fd) (T : Fx mg) (C_get_number : Ca5 P w K mg base (L2.CX P w) 3 "get_number" ["octets", "at"] (spU K (erL K) anyM pre_get_number post_get_number exc_get_number)) (C_get_key : Ca5 P w K mg base (L2.CX P w) 3 "get_key" ["octets", "at"] (spU K (erL K) anyM pre_get_key post_get_key exc_get_key)) (C_get_value : Ca5 P w K mg base (L2.CX P w) 5 "get_value" ["octets", "at"] (spU K (erL K) anyM pre_get_value post_get_value exc_get_value)) (R_InvalidOctets : Er P w K mg base "InvalidOctets" ((erL K).cl "InvalidOctets") "at") : FnG P w K mg base (L2.CX P w) 6 f fd ["octets", "at", "may_erase"] (spU K (erL K) anyM pre_get_pairs post_get_pairs exc_get_pairs) := by
  have nd := sc_get_pairs.nd
  refine fn_w (ws := w_get_pairs) F sc_get_pairs len_get_pairs (by decide) (fun cdv A out s H E hG hr => ?_) go
  exact ⟨_, (dss_cons (ds_asg (de_call C_get_number hG (hr.mono (by decide)) (passW (takes_of rfl rfl rfl rfl)) (fun _ _ => trivial) (du_cons (de_var (pv 0)) (du_cons (de_var (pv 1)) du_nil))) (dg_tup rfl rfl (dgs_cons (dg_name (pg_name (i := 3) nd rfl (Or.inl rfl))) (dgs_cons (dg_name (pg_name (i := 4) nd rfl (Or.inl rfl))) dgs_nil))))
 (dss_cons (ds_new (i := 5) nd rfl (Or.inl rfl))
 (dss_cons (ds_for (passes_of rfl) rfl (di_rngB rfl T.b_range (da_cons' (de_var (pv 3)) da_nil')) (dg_name (pg_name (i := 6) nd rfl (Or.inl rfl)))
 (dss_cons (ds_asg (de_call C_get_key hG (hr.mono (by decide)) (passW (takes_of rfl rfl rfl rfl)) (fun _ _ => trivial) (du_cons (de_var (pv 0)) (du_cons (de_var (pv 4)) du_nil))) (dg_tup rfl rfl (dgs_cons (dg_name (pg_name (i := 7) nd rfl (Or.inl rfl))) (dgs_cons (dg_name (pg_name (i := 8) nd rfl (Or.inl rfl))) dgs_nil))))
 (dss_cons (ds_if (dt_w (dw_and (dt_tr rfl (de_var (pv 5))) (dw_and1 (dt_cmp op_leW os_le (nomark _) (de_var (pv 7)) (de_ix rfl (de_ix rfl (de_var (pv 5)) (de_un un_neg us_neg (de_int pe_int))) (de_int pe_int)))))) (dss_one (ds_raise R_InvalidOctets rfl rfl rfl (takes_of rfl rfl rfl rfl) (hr.mono (by decide)) (de_var (pv 4))))
 dss_nil)
 (dss_cons (ds_asg (de_call C_get_value hG (hr.mono (by decide)) (passW (takes_of rfl rfl rfl rfl)) (fun _ _ => trivial) (du_cons (de_var (pv 0)) (du_cons (de_var (pv 8)) du_nil))) (dg_tup rfl rfl (dgs_cons (dg_name (pg_name (i := 9) nd rfl (Or.inl rfl))) (dgs_cons (dg_name (pg_name (i := 4) nd rfl (Or.inl rfl))) dgs_nil))))
 (dss_cons (ds_if (dt_w (dw_and (dt_cmp op_isNo os_is (nomark _) (de_var (pv 9)) (de_non pe_non)) (dw_and1 (dt_not (dt_tr rfl (de_var (pv 2))))))) (dss_one (ds_raise R_InvalidOctets rfl rfl rfl (takes_of rfl rfl rfl rfl) (hr.mono (by decide)) (de_var (pv 8))))
 dss_nil)
 (dss_one (ds_appD rfl (fun h => ps_expr (pe_bm PySem.F.plainAttrs_list PySem.F.slot_list_append PySem.F.type_list_append mt_append (pv 5) h)) (de_tup (da_cons' (de_var (pv 7)) (da_cons' (de_var (pv 9)) da_nil'))))))))))
 (dss_one (ds_ret (de_tup (da_cons' (de_t1 (cl_tupK K rfl) us_tup T.b_tuple (de_var (pv 5))) (da_cons' (de_var (pv 4)) da_nil'))))))))⟩

abbrev s_get_writes : Stmt := top 27
abbrev N_get_writes : List Str := ["octets", "at"]
theorem sc_get_writes : FnScope N_get_writes ["octets", "at"] (defScope s_get_writes) := ⟨rfl, rfl, rfl, by decide +kernel, rfl, by decide +kernel, by decide +kernel⟩
def w_get_writes : WS := (wRet (wCall pre_get_pairs post_get_pairs exc_get_pairs (wuCons (wVar 0) (wuCons (wVar 1) (wuCons (wC (.bool true)) wuNil)))))
def Go_get_writes : Prop := ∀ as, pre_get_writes as → w_get_writes (startS 2 as) ⟨fun _ => post_get_writes as .none, fun d _ => post_get_writes as d, fun _ => False, fun _ => False, fun c x _ => exc_get_writes as c x⟩
theorem ok_get_writes (go : Go_get_writes) (F : FnP K "get_writes" s_get_writes f fd) (T : Fx mg) (C_get_pairs : Ca5 P w K mg base (L2.CX P w) 6 "get_pairs" ["octets", "at", "may_erase"] (spU K (erL K) anyM pre_get_pairs post_get_pairs exc_get_pairs)) : FnG P w K mg base (L2.CX P w) 7 f fd ["octets", "at"] (spU K (erL K) anyM pre_get_writes post_get_writes exc_get_writes) := by
  have nd := sc_get_writes.nd
  refine fn_w (ws := w_get_writes) F sc_get_writes len_get_writes (by decide) (fun cdv A out s H E hG hr => ?_) go
  exact ⟨_, (dss_one (ds_ret (de_call C_get_pairs hG (hr.mono (by decide)) (passW (takes_of rfl rfl rfl rfl)) (fun _ _ => trivial) (du_cons (de_var (pv 0)) (du_cons (de_var (pv 1)) (du_cons (de_bl pe_bl) du_nil))))))⟩

abbrev s_put_entries : Stmt := top 28
abbrev N_put_entries : List Str := ["entries"]
theorem sc_put_entries : FnScope N_put_entries ["entries"] (defScope s_put_entries) := ⟨rfl, rfl, rfl, by decide +kernel, rfl, by decide +kernel, by decide +kernel⟩
def w_put_entries : WS := (wRet (wCall pre_put_writes post_put_writes exc_put_writes (wuCons (wVar 0) wuNil)))
def Go_put_entries : Prop := ∀ as, pre_put_entries as → w_put_entries (startS 1 as) ⟨fun _ => post_put_entries as .none, fun d _ => post_put_entries as d, fun _ => False, fun _ => False, fun c x _ => exc_put_entries as c x⟩
theorem ok_put_entries (go : Go_put_entries) (F : FnP K "put_entries" s_put_entries f fd) (T : Fx mg) (C_put_writes : Ca5 P w K mg base (L2.CX P w) 4 "put_writes" ["pairs"] (spU K (erL K) anyM pre_put_writes post_put_writes exc_put_writes)) : FnG P w K mg base (L2.CX P w) 5 f fd ["entries"] (spU K (erL K) anyM pre_put_entries post_put_entries exc_put_entries) := by
  have nd := sc_put_entries.nd
  refine fn_w (ws := w_put_entries) F sc_put_entries len_put_entries (by decide) (fun cdv A out s H E hG hr => ?_) go
  exact ⟨_, (dss_one (ds_ret (de_call C_put_writes hG (hr.mono (by decide)) (passW (takes_of rfl rfl rfl rfl)) (fun _ _ => trivial) (du_cons (de_var (pv 0)) du_nil))))⟩

abbrev s_get_entries : Stmt := top 29
abbrev N_get_entries : List Str := ["octets", "at"]
theorem sc_get_entries : FnScope N_get_entries ["octets", "at"] (defScope s_get_entries) := ⟨rfl, rfl, rfl, by decide +kernel, rfl, by decide +kernel, by decide +kernel⟩
def w_get_entries : WS := (wRet (wCall pre_get_pairs post_get_pairs exc_get_pairs (wuCons (wVar 0) (wuCons (wVar 1) (wuCons (wC (.bool false)) wuNil)))))
def Go_get_entries : Prop := ∀ as, pre_get_entries as → w_get_entries (startS 2 as) ⟨fun _ => post_get_entries as .none, fun d _ => post_get_entries as d, fun _ => False, fun _ => False, fun c x _ => exc_get_entries as c x⟩
theorem ok_get_entries (go : Go_get_entries) (F : FnP K "get_entries" s_get_entries f fd) (T : Fx mg) (C_get_pairs : Ca5 P w K mg base (L2.CX P w) 6 "get_pairs" ["octets", "at", "may_erase"] (spU K (erL K) anyM pre_get_pairs post_get_pairs exc_get_pairs)) : FnG P w K mg base (L2.CX P w) 7 f fd ["octets", "at"] (spU K (erL K) anyM pre_get_entries post_get_entries exc_get_entries) := by
  have nd := sc_get_entries.nd
  refine fn_w (ws := w_get_entries) F sc_get_entries len_get_entries (by decide) (fun cdv A out s H E hG hr => ?_) go
  exact ⟨_, (dss_one (ds_ret (de_call C_get_pairs hG (hr.mono (by decide)) (passW (takes_of rfl rfl rfl rfl)) (fun _ _ => trivial) (du_cons (de_var (pv 0)) (du_cons (de_var (pv 1)) (du_cons (de_bl pe_bl) du_nil))))))⟩

abbrev s_put_end : Stmt := top 30
abbrev N_put_end : List Str := ["end"]
theorem sc_put_end : FnScope N_put_end ["end"] (defScope s_put_end) := ⟨rfl, rfl, rfl, by decide +kernel, rfl, by decide +kernel, by decide +kernel⟩
def w_put_end : WS := (wRet (wIf (wTest (wOp gIs (wVar 0) (wC .none))) (wTup (waCons (wC (.int 0)) waNil)) (wOp gAdd (wTup (waCons (wC (.int 1)) waNil)) (wCall pre_put_key post_put_key exc_put_key (wuCons (wVar 0) wuNil)))))
def Go_put_end : Prop := ∀ as, pre_put_end as → w_put_end (startS 1 as) ⟨fun _ => post_put_end as .none, fun d _ => post_put_end as d, fun _ => False, fun _ => False, fun c x _ => exc_put_end as c x⟩
theorem ok_put_end (go : Go_put_end) (F : FnP K "put_end" s_put_end f fd) (T : Fx mg) (C_put_key : Ca5 P w K mg base (L2.CX P w) 2 "put_key" ["key"] (spU K (erL K) anyM pre_put_key post_put_key exc_put_key)) : FnG P w K mg base (L2.CX P w) 3 f fd ["end"] (spU K (erL K) anyM pre_put_end post_put_end exc_put_end) := by
  have nd := sc_put_end.nd
  refine fn_w (ws := w_put_end) F sc_put_end len_put_end (by decide) (fun cdv A out s H E hG hr => ?_) go
  exact ⟨_, (dss_one (ds_ret (de_ifx (dt_cmp op_isNo os_is (nomark _) (de_var (pv 0)) (de_non pe_non)) (de_tup (da_cons' (de_int pe_int) da_nil')) (de_op (op_addW rfl) os_add (de_tup (da_cons' (de_int pe_int) da_nil')) (de_call C_put_key hG (hr.mono (by decide)) (passW (takes_of rfl rfl rfl rfl)) (fun _ _ => trivial) (du_cons (de_var (pv 0)) du_nil))))))⟩

abbrev s_get_end : Stmt := top 31
abbrev N_get_end : List Str := ["octets", "at"]
theorem sc_get_end : FnScope N_get_end ["octets", "at"] (defScope s_get_end) := ⟨rfl, rfl, rfl, by decide +kernel, rfl, by decide +kernel, by decide +kernel⟩
def w_get_end : WS := (wSeq (wIfS (wOr (wTest (wOp gGe (wVar 1) (wUn gLen (wVar 0)))) (wTest (wOp gGt (wOp gIx (wVar 0) (wVar 1)) (wC (.int 1))))) (wRaise "InvalidOctets" (wVar 1))
 wNext)
 (wSeq (wIfS (wTest (wOp gEq (wOp gIx (wVar 0) (wVar 1)) (wC (.int 0)))) (wRet (wTup (waCons (wC .none) (waCons (wOp gAdd (wVar 1) (wC (.int 1))) waNil))))
 wNext)
 (wRet (wCall pre_get_key post_get_key exc_get_key (wuCons (wVar 0) (wuCons (wOp gAdd (wVar 1) (wC (.int 1))) wuNil))))))
def Go_get_end : Prop := ∀ as, pre_get_end as → w_get_end (startS 2 as) ⟨fun _ => post_get_end as .none, fun d _ => post_get_end as d, fun _ => False, fun _ => False, fun c x _ => exc_get_end as c x⟩
theorem ok_get_end (go : Go_get_end) (F : FnP K "get_end" s_get_end f fd) (T : Fx mg) (C_get_key : Ca5 P w K mg base (L2.CX P w) 3 "get_key" ["octets", "at"] (spU K (erL K) anyM pre_get_key post_get_key exc_get_key)) (R_InvalidOctets : Er P w K mg base "InvalidOctets" ((erL K).cl "InvalidOctets") "at") : FnG P w K mg base (L2.CX P w) 4 f fd ["octets", "at"] (spU K (erL K) anyM pre_get_end post_get_end exc_get_end) := by
  have nd := sc_get_end.nd
  refine fn_w (ws := w_get_end) F sc_get_end len_get_end (by decide) (fun cdv A out s H E hG hr => ?_) go
  exact ⟨_, (dss_cons (ds_if (dt_w (dw_or (dt_cmp op_geW os_ge (nomark _) (de_var (pv 1)) (de_b1 (cl_lenK K rfl) us_len T.b_len (de_var (pv 0)))) (dw_or1 (dt_cmp op_gtW os_gt (nomark _) (de_ix rfl (de_var (pv 0)) (de_var (pv 1))) (de_int pe_int))))) (dss_one (ds_raise R_InvalidOctets rfl rfl rfl (takes_of rfl rfl rfl rfl) (hr.mono (by decide)) (de_var (pv 1))))
 dss_nil)
 (dss_cons (ds_if (dt_cmp (op_eqW rfl (hu64 hr)) os_eq (nomark _) (de_ix rfl (de_var (pv 0)) (de_var (pv 1))) (de_int pe_int)) (dss_one (ds_ret (de_tup (da_cons' (de_non pe_non) (da_cons' (de_op (op_addW rfl) os_add (de_var (pv 1)) (de_int pe_int)) da_nil')))))
 dss_nil)
 (dss_one (ds_ret (de_call C_get_key hG (hr.mono (by decide)) (passW (takes_of rfl rfl rfl rfl)) (fun _ _ => trivial) (du_cons (de_var (pv 0)) (du_cons (de_op (op_addW rfl) os_add (de_var (pv 1)) (de_int pe_int)) du_nil)))))))⟩

abbrev s_put_range : Stmt := top 32
abbrev N_put_range : List Str := ["bounds"]
theorem sc_put_range : FnScope N_put_range ["bounds"] (defScope s_put_range) := ⟨rfl, rfl, rfl, by decide +kernel, rfl, by decide +kernel, by decide +kernel⟩
def w_put_range : WS := (wRet (wOp gAdd (wCall pre_put_end post_put_end exc_put_end (wuCons (wOp gIx (wVar 0) (wC (.int 0))) wuNil)) (wCall pre_put_end post_put_end exc_put_end (wuCons (wOp gIx (wVar 0) (wC (.int 1))) wuNil))))
def Go_put_range : Prop := ∀ as, pre_put_range as → w_put_range (startS 1 as) ⟨fun _ => post_put_range as .none, fun d _ => post_put_range as d, fun _ => False, fun _ => False, fun c x _ => exc_put_range as c x⟩
theorem ok_put_range (go : Go_put_range) (F : FnP K "put_range" s_put_range f fd) (T : Fx mg) (C_put_end : Ca5 P w K mg base (L2.CX P w) 3 "put_end" ["end"] (spU K (erL K) anyM pre_put_end post_put_end exc_put_end)) : FnG P w K mg base (L2.CX P w) 4 f fd ["bounds"] (spU K (erL K) anyM pre_put_range post_put_range exc_put_range) := by
  have nd := sc_put_range.nd
  refine fn_w (ws := w_put_range) F sc_put_range len_put_range (by decide) (fun cdv A out s H E hG hr => ?_) go
  exact ⟨_, (dss_one (ds_ret (de_op (op_addW rfl) os_add (de_call C_put_end hG (hr.mono (by decide)) (passW (takes_of rfl rfl rfl rfl)) (fun _ _ => trivial) (du_cons (de_ix rfl (de_var (pv 0)) (de_int pe_int)) du_nil)) (de_call C_put_end hG (hr.mono (by decide)) (passW (takes_of rfl rfl rfl rfl)) (fun _ _ => trivial) (du_cons (de_ix rfl (de_var (pv 0)) (de_int pe_int)) du_nil)))))⟩

abbrev s_get_range : Stmt := top 33
abbrev N_get_range : List Str := ["octets", "at", "low", "here", "high", "behind"]
theorem sc_get_range : FnScope N_get_range ["octets", "at"] (defScope s_get_range) := ⟨rfl, rfl, rfl, by decide +kernel, rfl, by decide +kernel, by decide +kernel⟩
def w_get_range : WS := (wSeq (wAsg (wCall pre_get_end post_get_end exc_get_end (wuCons (wVar 0) (wuCons (wVar 1) wuNil))) (wgTup 2 (wgCons (wgName 2) (wgCons (wgName 3) wgNil))))
 (wSeq (wAsg (wCall pre_get_end post_get_end exc_get_end (wuCons (wVar 0) (wuCons (wVar 3) wuNil))) (wgTup 2 (wgCons (wgName 4) (wgCons (wgName 5) wgNil))))
 (wRet (wTup (waCons (wTup (waCons (wVar 2) (waCons (wVar 4) waNil))) (waCons (wVar 5) waNil))))))
def Go_get_range : Prop := ∀ as, pre_get_range as → w_get_range (startS 6 as) ⟨fun _ => post_get_range as .none, fun d _ => post_get_range as d, fun _ => False, fun _ => False, fun c x _ => exc_get_range as c x⟩
theorem ok_get_range (go : Go_get_range) (F : FnP K "get_range" s_get_range f fd) (T : Fx mg) (C_get_end : Ca5 P w K mg base (L2.CX P w) 4 "get_end" ["octets", "at"] (spU K (erL K) anyM pre_get_end post_get_end exc_get_end)) : FnG P w K mg base (L2.CX P w) 5 f fd ["octets", "at"] (spU K (erL K) anyM pre_get_range post_get_range exc_get_range) := by
  have nd := sc_get_range.nd
  refine fn_w (ws := w_get_range) F sc_get_range len_get_range (by decide) (fun cdv A out s H E hG hr => ?_) go
  exact ⟨_, (dss_cons (ds_asg (de_call C_get_end hG (hr.mono (by decide)) (passW (takes_of rfl rfl rfl rfl)) (fun _ _ => trivial) (du_cons (de_var (pv 0)) (du_cons (de_var (pv 1)) du_nil))) (dg_tup rfl rfl (dgs_cons (dg_name (pg_name (i := 2) nd rfl (Or.inl rfl))) (dgs_cons (dg_name (pg_name (i := 3) nd rfl (Or.inl rfl))) dgs_nil))))
 (dss_cons (ds_asg (de_call C_get_end hG (hr.mono (by decide)) (passW (takes_of rfl rfl rfl rfl)) (fun _ _ => trivial) (du_cons (de_var (pv 0)) (du_cons (de_var (pv 3)) du_nil))) (dg_tup rfl rfl (dgs_cons (dg_name (pg_name (i := 4) nd rfl (Or.inl rfl))) (dgs_cons (dg_name (pg_name (i := 5) nd rfl (Or.inl rfl))) dgs_nil))))
 (dss_one (ds_ret (de_tup (da_cons' (de_tup (da_cons' (de_var (pv 2)) (da_cons' (de_var (pv 4)) da_nil'))) (da_cons' (de_var (pv 5)) da_nil')))))))⟩


end
end K04

namespace K04
open PySem PySem.Spec
open PyProof.Rows L2 DL DW
local macro_rules | `(tactic| walk_at "dw0") => `(tactic| simp only [DW.startS, DW.AV.sv, List.map_cons, List.map_nil, List.length_cons, List.length_nil, List.replicate_succ, List.replicate_zero, List.cons_append, List.nil_append, Nat.reduceAdd, Nat.reduceSub])
local macro_rules | `(tactic| walk_at "dw") => `(tactic| simp only [DW.wSeq, DW.wNext, DW.wIfS, DW.wRet, DW.wRetN, DW.wBreak, DW.wCont, DW.wSet, DW.wAsg, DW.wNew, DW.wNewL, DW.wNewC, DW.wExpr, DW.wApp, DW.wExt, DW.wExtA, DW.wPop, DW.wAug, DW.wRaise, DW.wVar, DW.wC, DW.wRaw, DW.wOp, DW.wUn, DW.waNil, DW.waCons, DW.wCB, DW.wTup, DW.wLst, DW.wTest, DW.wYes, DW.wAnd, DW.wOr, DW.wNot, DW.wTr, DW.gTr, DW.wAndV, DW.wOrV, DW.wNotV, DW.wIf, DW.rdq, DW.frz, DW.asg, DW.avf, DW.wuNil, DW.wuCons, DW.wCall, DW.wCallK, DW.wgName, DW.wgTup, DW.wgCons, DW.wgNil,
  DW.wParN, DW.wnNil, DW.wnD, DW.wnNew, DW.asgN, DW.gAdd, DW.gSub, DW.gMul, DW.gMod, DW.gDiv, DW.gPow, DW.gLt, DW.gLe, DW.gGt, DW.gGe, DW.gEq, DW.gNe, DW.gInB, DW.gIs, DW.gIsNot, DW.gIx, DW.gNeg, DW.gLen, DW.gToT, DW.gToL, DW.gInt, DW.gAbs, DW.gRepr, DW.gMin2, DW.gMax2, DW.gOrd, DW.gStr, DW.gAddI, DW.gSubI, DW.gIsB, DW.gIsntB, DW.gRep, DW.wJoin, DW.gJoin, DW.wIndex, DW.gIndex, DW.wRg1, DW.wRg2, DW.LT.mk, DW.wiSeq, DW.wiRng1, DW.wiRng2, DW.wiRngB, DW.wiEnumX, DW.wiEnum, DW.wipeS, DL.truth, DL.isNo, DW.wIsi, DW.wSl, DW.gSl, DW.gRev, DW.woNone, DW.woSome, DW.wFor_eq, DW.wLc_eq, DW.wNewLc_eq, DW.one_ord, DW.one_len, DL.oD_len,
  DW.eqv_int, DW.sh_intT, true_and, List.getElem?_cons_zero, List.getElem?_cons_succ, List.set_cons_zero, List.set_cons_succ, List.length_cons, List.length_nil, if_true, if_false, decide_eq_true_eq, Bool.false_eq_true, reduceIte, List.cons_append, List.nil_append, Nat.reduceAdd, Bool.not_true, Bool.not_false])
local macro_rules | `(tactic| walk_at "ds") => `(tactic| repeat ((with_reducible refine DW.Kt_i ?_); (walk_at "dw")))
local macro_rules | `(tactic| walk_at "go") => `(tactic| ((walk_at "dw0"); (walk_at "dw"); (walk_at "ds")))
theorem figsN_len (n : Nat) : (figsN n).length ≤ 9 := figsF_len 8 n
theorem enc_step {ns : List Int} {i : Nat} {x : Int} (h : ns[i]? = some x) : (ns.take (i + 1)).flatMap (fun n => figsN n.toNat) = (ns.take i).flatMap (fun n => figsN n.toNat) ++ figsN x.toNat := by
  rw [List.take_add_one, h]; simp
theorem flat_len (ns : List Int) : (ns.flatMap fun n => figsN n.toNat).length ≤ 9 * ns.length := by
  induction ns with
  | nil => simp
  | cons n ns ih => rw [List.flatMap_cons, List.length_append, List.length_cons]; have := figsN_len n.toNat; omega
theorem p9 : (128 ^ 9 : Nat) = 9223372036854775808 := by decide
theorem one_arg_int {n m : Nat} (e : [AV.d (.int (n : Int))] = [AV.d (.int (m : Int))]) : n = m := by
  have := PyData.int.inj (AV.d.inj (List.cons.inj e).1); omega
theorem one_arg_str {n m : Str} (e : [AV.d (.str n)] = [AV.d (.str m)]) : n = m := PyData.str.inj (AV.d.inj (List.cons.inj e).1)
theorem one_arg_d {n m : PyData} (e : [AV.d n] = [AV.d m]) : n = m := AV.d.inj (List.cons.inj e).1
theorem go_put_numbers : Go_put_numbers := by
  rintro as ⟨ns, rfl, hl, hb⟩
  unfold w_put_numbers
  walk_at "go"
  have hz := sizeLine_eq
  have hp := p9
  refine ⟨⟨ns.length, rfl, by omega⟩, ?_, fun _ _ z => z.elim⟩
  rintro d ⟨n, e, rfl⟩
  cases one_arg_int e
  walk_at "dw"
  walk_at "ds"
  refine ⟨fun i s => ∃ v, s = [some (.d (.tuple (oD ns))), some (.own (oD (figsN ns.length ++ (ns.take i).flatMap fun n => figsN n.toNat))), v], ⟨none, by simp⟩, ?_, ?_⟩
  · rintro i d s2 hd ⟨v, rfl⟩
    obtain ⟨x, hx, rfl⟩ := oD_at hd
    have hm := hb x (List.mem_of_getElem? hx)
    obtain ⟨m, rfl⟩ := Int.eq_ofNat_of_zero_le hm.1
    walk_at "dw"
    refine ⟨⟨_, rfl⟩, ⟨m, rfl, by omega⟩, ?_, fun _ _ z => z.elim⟩
    rintro d ⟨n, e, rfl⟩
    cases one_arg_int e
    walk_at "dw"
    refine ⟨?_, _, by rw [oD_app, enc_step hx, List.append_assoc]; rfl⟩
    have h1 := figsN_len m
    have h2 := figsN_len ns.length
    have h3 := flat_len (ns.take i)
    have h4 : (ns.take i).length ≤ ns.length := by rw [List.length_take]; omega
    rw [List.length_append]
    omega
  · rintro s2 ⟨v, rfl⟩
    walk_at "ds"
    exact ⟨ns, rfl, by rw [List.take_length]; rfl⟩
theorem go_get_numbers : Go_get_numbers := by
  rintro as ⟨xs, a, rfl, ho, hl, ha⟩
  unfold w_get_numbers rdArgs
  walk_at "go"
  have hz := sizeLine_eq
  have hp := p9
  have hl20 : xs.length < 1048576 := hl
  refine ⟨⟨xs, a, rfl, ho, hl, ha⟩, ?_, ?_⟩
  · rintro d ⟨xs', a', v, q, e, hg, rfl⟩
    obtain ⟨rfl, rfl⟩ := rd_inj e
    obtain ⟨m, rfl, h1, h2, h3, hm⟩ := getN_some ho hg
    unfold pairD
    walk_at "dw"
    walk_at "ds"
    refine ⟨⟨by omega, by omega⟩, fun i s => ∃ p acc v5 v6, s = [some (.d (.tuple (oD xs))), some (.d (.int a)), some (.d (.int (m : Nat))), some (.d (.int (p : Nat))), some (.own (oD acc)), v5, v6] ∧ p ≤ xs.length ∧ acc.length ≤ p ∧ goNums xs (m - i) p acc = rdNums xs a,
      ⟨q, [], none, none, rfl, h2, Nat.zero_le _, by unfold rdNums; rw [hg]; rfl⟩, ?_, ?_⟩
    · rintro i d s2 hd ⟨p, acc, v5, v6, rfl, hp1, hp2, hr⟩
      obtain ⟨rfl, hk⟩ := rngD_at hd
      have ei : m - i = (m - (i + 1)) + 1 := by omega
      rw [ei] at hr
      unfold goNums at hr
      walk_at "dw"
      refine ⟨⟨xs, p, rfl, ho, hl, hp1⟩, ?_, ?_⟩
      · rintro d ⟨xs', a', v, q', e, hg', rfl⟩
        obtain ⟨rfl, rfl⟩ := rd_inj e
        obtain ⟨m', rfl, g1, g2, g3, gm⟩ := getN_some ho hg'
        rw [hg'] at hr
        unfold pairD
        walk_at "dw"
        walk_at "ds"
        exact ⟨⟨_, rfl⟩, by omega, q', acc ++ [((m' : Nat) : Int)], _, _, by rw [← oD_app]; rfl, g2, by rw [List.length_append, List.length_singleton]; omega, hr⟩
      · rintro c x ⟨xs', a', e, hg', rfl, rfl⟩
        obtain ⟨rfl, rfl⟩ := rd_inj e
        rw [hg'] at hr
        exact ⟨xs, a, p, rfl, hr.symm, rfl, rfl⟩
    · rintro s2 ⟨p, acc, v5, v6, rfl, hp1, hp2, hr⟩
      walk_at "ds"
      have e0 : m - (rngD 0 ((m : Nat) : Int)).length = 0 := by rw [rngD_len]; omega
      rw [e0] at hr
      exact ⟨by decide, xs, a, _, p, rfl, hr.symm, rfl⟩
  · rintro c x ⟨xs', a', e, hg, rfl, rfl⟩
    obtain ⟨rfl, rfl⟩ := rd_inj e
    exact ⟨xs, a, a, rfl, by unfold rdNums; rw [hg], rfl, rfl⟩
theorem go_put_key : Go_put_key := by
  rintro as ⟨z, rfl, hz⟩
  unfold w_put_key
  walk_at "go"
  have hs := sizeLine_eq
  refine ⟨⟨z, rfl, by omega⟩, ?_, fun _ _ z => z.elim⟩
  rintro d ⟨z', e, rfl⟩
  cases one_arg_str e
  walk_at "dw"
  have hc : (codes z).length = z.length := codes_len z
  exact ⟨by omega, by omega, z, rfl, by unfold encKey; rw [← oD_app]; rfl⟩
theorem go_put_text : Go_put_text := by
  rintro as ⟨z, rfl, hz⟩
  unfold w_put_text
  walk_at "go"
  have hs := sizeLine_eq
  have hp := p9
  refine ⟨by omega, ⟨z.length, rfl, by omega⟩, ?_, fun _ _ z => z.elim⟩
  rintro d ⟨n, e, rfl⟩
  cases one_arg_int e
  refine ⟨⟨z, rfl, by omega⟩, ?_, fun _ _ z => z.elim⟩
  rintro d ⟨z', e, rfl⟩
  cases one_arg_str e
  walk_at "dw"
  have hc : (codes z).length = z.length := codes_len z
  have h1 := figsN_len z.length
  exact ⟨by omega, z, rfl, by unfold encText; rw [← oD_app]⟩
theorem go_put_value : Go_put_value := by
  rintro as ⟨v, rfl, hv⟩
  unfold w_put_value
  have hs := sizeLine_eq
  cases v with
  | none =>
    walk_at "go"
    exact ⟨by omega, _, rfl, rfl⟩
  | str z =>
    walk_at "go"
    have e : isTy (.str z) "str" = true := rfl
    rw [e]
    walk_at "dw"
    refine ⟨by omega, ⟨z, rfl, hv⟩, ?_, fun _ _ z => z.elim⟩
    rintro d ⟨z', e, rfl⟩
    cases one_arg_str e
    walk_at "dw"
    have hc : (codes z).length = z.length := codes_len z
    have h1 := figsN_len z.length
    have h2 : z.length ≤ 32 := hv
    refine ⟨?_, _, rfl, rfl⟩
    unfold encText
    rw [List.length_append]
    omega
  | int i =>
    walk_at "go"
    have e : isTy (.int i) "str" = false := rfl
    rw [e]
    walk_at "dw"
    walk_at "ds"
    refine ⟨by omega, ⟨i, rfl, hv⟩, ?_, fun _ _ z => z.elim⟩
    rintro d ⟨z', e, rfl⟩
    have e2 : i = z' := PyData.int.inj (one_arg_d e)
    subst e2
    walk_at "dw"
    have h1 := figsN_len (zig i)
    exact ⟨by omega, _, rfl, rfl⟩
  | bool b => exact hv.elim
  | list _ => exact hv.elim
  | tuple _ => exact hv.elim
  | dict _ => exact hv.elim
theorem go_put_end : Go_put_end := by
  rintro as ⟨v, rfl, hv⟩
  unfold w_put_end
  have hs := sizeLine_eq
  cases v with
  | none =>
    walk_at "go"
    exact ⟨by omega, _, rfl, rfl⟩
  | str z =>
    walk_at "go"
    refine ⟨by omega, ⟨z, rfl, hv⟩, ?_, fun _ _ z => z.elim⟩
    rintro d ⟨z', e, rfl⟩
    cases one_arg_str e
    walk_at "dw"
    have hc : (codes z).length = z.length := codes_len z
    have h2 : z.length ≤ 16 := hv
    refine ⟨?_, _, rfl, rfl⟩
    unfold encKey
    rw [List.length_append, List.length_singleton]
    omega
  | int i => exact hv.elim
  | bool b => exact hv.elim
  | list _ => exact hv.elim
  | tuple _ => exact hv.elim
  | dict _ => exact hv.elim
theorem encEnd_len {v : PyData} (h : OkEnd v) : (encEnd v).length ≤ 18 := by
  cases v with
  | str z =>
    have hc : (codes z).length = z.length := codes_len z
    have h2 : z.length ≤ 16 := h
    unfold encEnd encKey
    simp
    omega
  | _ => exact (by decide : 1 ≤ 18)
theorem go_put_range : Go_put_range := by
  rintro as ⟨lo, hi, rfl, h1, h2⟩
  unfold w_put_range
  have hs := sizeLine_eq
  walk_at "go"
  refine ⟨lo, rfl, ⟨lo, rfl, h1⟩, ?_, fun _ _ z => z.elim⟩
  rintro d ⟨v, e, rfl⟩
  cases one_arg_d e
  refine ⟨hi, rfl, ⟨hi, rfl, h2⟩, ?_, fun _ _ z => z.elim⟩
  rintro d ⟨v, e, rfl⟩
  cases one_arg_d e
  walk_at "dw"
  have e1 := encEnd_len h1
  have e2 := encEnd_len h2
  exact ⟨by omega, lo, hi, rfl, by unfold encRange; rw [← oD_app]⟩
end K04

namespace K04
open PySem PySem.Spec
open PyProof.Rows L2 DL DW
local macro_rules | `(tactic| walk_at "dw0") => `(tactic| simp only [DW.startS, DW.AV.sv, List.map_cons, List.map_nil, List.length_cons, List.length_nil, List.replicate_succ, List.replicate_zero, List.cons_append, List.nil_append, Nat.reduceAdd, Nat.reduceSub])
local macro_rules | `(tactic| walk_at "dw") => `(tactic| simp only [DW.wSeq, DW.wNext, DW.wIfS, DW.wRet, DW.wRetN, DW.wBreak, DW.wCont, DW.wSet, DW.wAsg, DW.wNew, DW.wNewL, DW.wNewC, DW.wExpr, DW.wApp, DW.wExt, DW.wExtA, DW.wPop, DW.wAug, DW.wRaise, DW.wVar, DW.wC, DW.wRaw, DW.wOp, DW.wUn, DW.waNil, DW.waCons, DW.wCB, DW.wTup, DW.wLst, DW.wTest, DW.wYes, DW.wAnd, DW.wOr, DW.wNot, DW.wTr, DW.gTr, DW.wAndV, DW.wOrV, DW.wNotV, DW.wIf, DW.rdq, DW.frz, DW.asg, DW.avf, DW.wuNil, DW.wuCons, DW.wCall, DW.wCallK, DW.wgName, DW.wgTup, DW.wgCons, DW.wgNil,
  DW.wParN, DW.wnNil, DW.wnD, DW.wnNew, DW.asgN, DW.gAdd, DW.gSub, DW.gMul, DW.gMod, DW.gDiv, DW.gPow, DW.gLt, DW.gLe, DW.gGt, DW.gGe, DW.gEq, DW.gNe, DW.gInB, DW.gIs, DW.gIsNot, DW.gIx, DW.gNeg, DW.gLen, DW.gToT, DW.gToL, DW.gInt, DW.gAbs, DW.gRepr, DW.gMin2, DW.gMax2, DW.gOrd, DW.gStr, DW.gAddI, DW.gSubI, DW.gIsB, DW.gIsntB, DW.gRep, DW.wJoin, DW.gJoin, DW.wIndex, DW.gIndex, DW.wRg1, DW.wRg2, DW.LT.mk, DW.wiSeq, DW.wiRng1, DW.wiRng2, DW.wiRngB, DW.wiEnumX, DW.wiEnum, DW.wipeS, DL.truth, DL.isNo, DW.wIsi, DW.wSl, DW.gSl, DW.gRev, DW.woNone, DW.woSome, DW.wFor_eq, DW.wLc_eq, DW.wNewLc_eq, DW.one_ord, DW.one_len, DL.oD_len,
  DW.eqv_int, DW.sh_intT, true_and, List.getElem?_cons_zero, List.getElem?_cons_succ, List.set_cons_zero, List.set_cons_succ, List.length_cons, List.length_nil, if_true, if_false, decide_eq_true_eq, Bool.false_eq_true, reduceIte, List.cons_append, List.nil_append, Nat.reduceAdd, Bool.not_true, Bool.not_false])
local macro_rules | `(tactic| walk_at "ds") => `(tactic| repeat ((with_reducible refine DW.Kt_i ?_); (walk_at "dw")))
local macro_rules | `(tactic| walk_at "go") => `(tactic| ((walk_at "dw0"); (walk_at "dw"); (walk_at "ds")))
theorem ite_use {c : Prop} {h : Decidable c} {p q : Prop} (a : c → p) (b : ¬ c → q) : @ite Prop c h p q := by
  by_cases z : c
  · rw [if_pos z]; exact a z
  · rw [if_neg z]; exact b z
def oneS (o : Int) : PyData := .str ⟨#[o.toNat]⟩
theorem wordAt_cons {xs : List Int} {p : Nat} {o : Int} (h : xs[p]? = some o) (h0 : o ≠ 0) : wordAt xs p = o :: wordAt xs (p + 1) := by
  obtain ⟨hp, e⟩ := List.getElem?_eq_some_iff.mp h
  unfold wordAt
  rw [List.drop_eq_getElem_cons hp, e, List.takeWhile_cons_of_pos (by simpa using h0)]
theorem wordAt_zero {xs : List Int} {p : Nat} (h : xs[p]? = some 0) : wordAt xs p = [] := by
  obtain ⟨hp, e⟩ := List.getElem?_eq_some_iff.mp h
  unfold wordAt
  rw [List.drop_eq_getElem_cons hp, e, List.takeWhile_cons_of_neg (by simp)]
theorem wordAt_end {xs : List Int} {p : Nat} (h : xs.length ≤ p) : wordAt xs p = [] := by
  unfold wordAt
  rw [List.drop_of_length_le h]
  rfl
theorem find_any {l : List Nat} {o : Int} (h0 : 0 ≤ o) : (l.find? fun c : Nat => decide ((c : Int) = o)) = if (l.any fun c : Nat => decide ((c : Int) = o)) = true then some o.toNat else none := by
  induction l with
  | nil => rfl
  | cons c l ih =>
    by_cases hc : (c : Int) = o
    · rw [List.find?_cons_of_pos (by simpa using hc), List.any_cons, decide_eq_true hc, Bool.true_or, if_pos rfl]
      congr 1
      omega
    · rw [List.find?_cons_of_neg (by simpa using hc), List.any_cons, decide_eq_false hc, Bool.false_or, ih]
theorem sign_key {xs : List Int} {p : Nat} {o : Int} (h : xs[p]? = some o) (h0 : 0 ≤ o) : signAt xs p c_KEY_SIGNS = if isKeyC o = true then some o.toNat else none := by
  unfold signAt
  rw [h]
  exact find_any h0
theorem sign_text {xs : List Int} {p : Nat} {o : Int} (h : xs[p]? = some o) (h0 : 0 ≤ o) : signAt xs p c_TEXT_SIGNS = if isTextC o = true then some o.toNat else none := by
  unfold signAt
  rw [h]
  exact find_any h0
theorem sign_none {xs : List Int} {p : Nat} {z : Str} (h : xs[p]? = none) : signAt xs p z = none := by
  unfold signAt
  rw [h]
theorem strsOf_ones (w : List Int) : strsOf (w.map oneS) = some (w.map fun o => (⟨#[o.toNat]⟩ : Str)) := by
  induction w with
  | nil => rfl
  | cons o w ih => rw [List.map_cons]; show (strsOf (w.map oneS)).map _ = _; rw [ih]; rfl
theorem sum_ones (w : List Int) : ((w.map fun o => (⟨#[o.toNat]⟩ : Str)).map (·.length)).sum = w.length := by
  induction w with
  | nil => rfl
  | cons o w ih => rw [List.map_cons, List.map_cons, List.sum_cons, ih]; show 1 + _ = _; rw [List.length_cons]; omega
theorem glue_ones (w : List Int) (acc : Array Nat) : (w.map fun o => (⟨#[o.toNat]⟩ : Str)).foldl (fun acc p => acc ++ (Str.ofString "").cps ++ p.cps) acc = acc ++ (w.map Int.toNat).toArray := by
  induction w generalizing acc with
  | nil => simp
  | cons o w ih =>
    rw [List.map_cons, List.foldl_cons, ih]
    have e : (Str.ofString "").cps = #[] := rfl
    rw [e, List.map_cons]
    apply Array.ext'
    simp
theorem join_ones (w : List Int) : Txt.join (Str.ofString "") (w.map fun o => (⟨#[o.toNat]⟩ : Str)) = strOf w := by
  show Builtin.Str.glued _ _ = _
  unfold Builtin.Str.glued strOf
  cases w with
  | nil => rfl
  | cons o w =>
    rw [List.map_cons, List.drop_succ_cons, List.drop_zero, glue_ones]
    congr 1
    apply Array.ext'
    simp
theorem keyAt_some {xs w : List Int} {a : Nat} (hw : wordAt xs a = w) (hp : a + w.length < xs.length) (hn : w ≠ []) (h3 : w.all isKeyC = true) (h4 : w.length ≤ 16) : keyAt xs a = some (strOf w, a + w.length + 1) := by
  unfold keyAt
  rw [hw, if_pos ⟨hp, hn, h4, h3⟩]
theorem keyAt_none {xs w : List Int} {a : Nat} (hw : wordAt xs a = w) (h : ¬ (a + w.length < xs.length ∧ w ≠ [] ∧ w.length ≤ 16 ∧ w.all isKeyC = true)) : rdKey xs a = .bad a := by
  unfold rdKey keyAt
  rw [hw, if_neg h]
theorem go_get_key : Go_get_key := by
  rintro as ⟨xs, a, rfl, ho, hl, ha⟩
  unfold w_get_key rdArgs
  walk_at "go"
  have hz := sizeLine_eq
  have hl20 : xs.length < 1048576 := hl
  unfold wWhile
  refine ⟨fun m s => ∃ (w1 : List Int) (v4 : Option SV), s = [some (.d (.tuple (oD xs))), some (.d (.int a)), some (.own (w1.map oneS)), some (.d (.int ((a + w1.length : Nat) : Int))), v4] ∧ m = xs.length - (a + w1.length) ∧ a + w1.length ≤ xs.length ∧ wordAt xs a = w1 ++ wordAt xs (a + w1.length) ∧ w1.all isKeyC = true ∧ w1.length ≤ 16, ⟨_, [], none, rfl, rfl, ha, rfl, rfl, by decide⟩, ?_⟩
  rintro m s1 ⟨w1, v4, rfl, rfl, h1, h2, h3, h4⟩
  walk_at "dw"
  split
  · rename_i c1
    have hp : a + w1.length < xs.length := by omega
    have e := List.getElem?_eq_getElem hp
    generalize xs[a + w1.length] = o at e
    have oo := ho o (List.mem_of_getElem? e)
    refine ⟨.int o, L2.atI_nat (oD_get e), ?_⟩
    walk_at "dw"
    split
    · rename_i c2
      have c2 : o ≠ 0 := by simpa using c2
      have hw := wordAt_cons e c2
      rw [hw] at h2
      have hk : (wordAt xs a).length = w1.length + 1 + (wordAt xs (a + w1.length + 1)).length := by rw [h2, List.length_append, List.length_cons]; omega
      refine ⟨⟨xs, _, _, rfl⟩, ?_, fun _ _ z => z.elim⟩
      rintro d ⟨xs', a', z', e2, rfl⟩
      have e3 : rdArgs xs (a + w1.length) = rdArgs xs' a' := by unfold rdArgs; exact congrArg (List.take 2) e2
      obtain ⟨rfl, rfl⟩ := rd_inj e3
      have e4 : c_KEY_SIGNS = z' := by
        have := (List.cons.inj (List.cons.inj (List.cons.inj e2).2).2).1
        exact PyData.str.inj (AV.d.inj this)
      subst e4
      rw [sign_key e oo.1]
      by_cases c3 : isKeyC o = true
      · rw [if_pos c3]
        unfold oneD
        walk_at "ds"
        split
        · rename_i c4
          rw [List.length_map] at c4
          exact ⟨xs, a, a, rfl, keyAt_none rfl (by rintro ⟨_, _, z, _⟩; omega), rfl, rfl⟩
        · rename_i c4
          rw [List.length_map] at c4
          walk_at "ds"
          refine ⟨⟨_, rfl⟩, by rw [List.length_map]; omega, ?_⟩
          walk_at "ds"
          refine ⟨_, ?_, w1 ++ [o], some (.d (oneS o)), ?_, rfl, ?_, ?_, ?_, ?_⟩
          · rw [List.length_append, List.length_singleton]; omega
          · rw [List.map_append, List.length_append, List.length_singleton]; rfl
          · rw [List.length_append, List.length_singleton]; omega
          · rw [h2, List.length_append, List.length_singleton, List.append_assoc]; rfl
          · rw [List.all_append, h3]; simpa using c3
          · rw [List.length_append, List.length_singleton]; omega
      · rw [if_neg c3]
        unfold oneD
        walk_at "ds"
        exact ⟨xs, a, a, rfl, keyAt_none rfl (by
          rintro ⟨_, _, _, z⟩
          rw [h2, List.all_append, List.all_cons] at z
          simp only [Bool.and_eq_true] at z
          exact c3 z.2.1), rfl, rfl⟩
    · rename_i c2
      have c2 : o = 0 := by simpa using c2
      subst c2
      rw [wordAt_zero e, List.append_nil] at h2
      walk_at "ds"
      rw [if_neg (by omega)]
      refine ite_use (fun c3 => ?_) fun c3 => ?_
      · have c3 : w1 = [] := by simpa using c3
        exact ⟨xs, a, a, rfl, keyAt_none h2 (by rintro ⟨_, z, _⟩; exact z c3), rfl, rfl⟩
      · have c3 : w1 ≠ [] := by simpa using c3
        walk_at "ds"
        refine ⟨_, _, _, rfl, .inl rfl, strsOf_ones w1, ?_, by decide, xs, a, _, _, rfl, ?_, rfl⟩
        · rw [sum_ones]
          have : (Str.ofString "").length = 0 := rfl
          rw [this]; omega
        · rw [join_ones]
          unfold rdKey
          rw [keyAt_some h2 hp c3 h3 h4]
  · rename_i c1
    have hp : a + w1.length = xs.length := by omega
    rw [wordAt_end (p := a + w1.length) (by omega), List.append_nil] at h2
    walk_at "ds"
    rw [if_pos (by omega)]
    exact ⟨xs, a, a, rfl, keyAt_none h2 (by rintro ⟨z, _⟩; omega), rfl, rfl⟩
theorem go_get_text : Go_get_text := by
  rintro as ⟨xs, a, rfl, ho, hl, ha⟩
  unfold w_get_text rdArgs
  walk_at "go"
  have hz := sizeLine_eq
  have hl20 : xs.length < 1048576 := hl
  refine ⟨⟨xs, a, rfl, ho, hl, ha⟩, ?_, ?_⟩
  · rintro d ⟨xs', a', v, q, e, hg, rfl⟩
    obtain ⟨rfl, rfl⟩ := rd_inj e
    obtain ⟨m, rfl, h1, h2, h3, hm⟩ := getN_some ho hg
    unfold pairD
    walk_at "dw"
    walk_at "ds"
    split
    · rename_i c1
      exact ⟨xs, a, a, rfl, by unfold rdText; rw [hg]; exact if_pos c1, rfl, rfl⟩
    · rename_i c1
      have hr : goText xs m q [] = rdText xs a := by unfold rdText; rw [hg]; exact (if_neg c1).symm
      walk_at "ds"
      refine ⟨by omega, fun i s => ∃ (w : List Int) (v5 v6 : Option SV), s = [some (.d (.tuple (oD xs))), some (.d (.int a)), some (.d (.int (m : Nat))), some (.d (.int (q : Nat))), some (.own (w.map oneS)), v5, v6] ∧ w.length = i ∧ goText xs (m - i) (q + i) w = rdText xs a, ⟨[], none, none, rfl, rfl, hr⟩, ?_, ?_⟩
      · rintro i d s2 hd ⟨w, v5, v6, rfl, hw, hr⟩
        obtain ⟨rfl, hk⟩ := rngD_at hd
        have e0 : ((q : Int) + (i : Nat)) = ((q + i : Nat) : Int) := by omega
        have ei : m - i = (m - (i + 1)) + 1 := by omega
        rw [ei] at hr
        unfold goText at hr
        rw [e0]
        walk_at "dw"
        refine ⟨⟨xs, _, _, rfl⟩, ?_, fun _ _ z => z.elim⟩
        rintro d ⟨xs', a', z', e2, rfl⟩
        have e3 : rdArgs xs (q + i) = rdArgs xs' a' := by unfold rdArgs; exact congrArg (List.take 2) e2
        obtain ⟨rfl, rfl⟩ := rd_inj e3
        have e4 : c_TEXT_SIGNS = z' := by
          have := (List.cons.inj (List.cons.inj (List.cons.inj e2).2).2).1
          exact PyData.str.inj (AV.d.inj this)
        subst e4
        cases hx : xs[q + i]? with
        | none =>
          rw [hx] at hr
          rw [sign_none hx]
          unfold oneD
          walk_at "ds"
          exact ⟨xs, a, _, rfl, hr.symm, rfl, rfl⟩
        | some o =>
          have oo := ho o (List.mem_of_getElem? hx)
          rw [hx] at hr
          rw [sign_text hx oo.1]
          have hr : (if isTextC o = true then goText xs (m - (i + 1)) (q + i + 1) (w ++ [o]) else .bad (q + i)) = rdText xs a := hr
          by_cases c3 : isTextC o = true
          · rw [if_pos c3] at hr
            rw [if_pos c3]
            unfold oneD
            walk_at "ds"
            refine ⟨⟨_, rfl⟩, by rw [List.length_map]; omega, w ++ [o], _, _, by rw [List.map_append]; rfl, by rw [List.length_append, List.length_singleton, hw], hr⟩
          · rw [if_neg c3] at hr
            rw [if_neg c3]
            unfold oneD
            walk_at "ds"
            exact ⟨xs, a, _, rfl, hr.symm, rfl, rfl⟩
      · rintro s2 ⟨w, v5, v6, rfl, hw, hr⟩
        have el : (rngD ((q : Nat) : Int) ((q : Nat) + (m : Nat))).length = m := by rw [rngD_len]; omega
        rw [el] at hr hw
        rw [Nat.sub_self] at hr
        walk_at "ds"
        refine ⟨_, _, _, rfl, .inl rfl, strsOf_ones w, ?_, by decide, xs, a, .str (strOf w), q + m, rfl, hr.symm, ?_⟩
        · rw [sum_ones]
          have : (Str.ofString "").length = 0 := rfl
          rw [this]; omega
        · rw [join_ones]
          unfold pairD
          rw [Int.natCast_add]
  · rintro c x ⟨xs', a', e, hg, rfl, rfl⟩
    obtain ⟨rfl, rfl⟩ := rd_inj e
    exact ⟨xs, a, a, rfl, by unfold rdText; rw [hg], rfl, rfl⟩
end K04

namespace K04
open PySem PySem.Spec
open PyProof.Rows L2 DL DW
local macro_rules | `(tactic| walk_at "dw0") => `(tactic| simp only [DW.startS, DW.AV.sv, List.map_cons, List.map_nil, List.length_cons, List.length_nil, List.replicate_succ, List.replicate_zero, List.cons_append, List.nil_append, Nat.reduceAdd, Nat.reduceSub])
local macro_rules | `(tactic| walk_at "dw") => `(tactic| simp only [DW.wSeq, DW.wNext, DW.wIfS, DW.wRet, DW.wRetN, DW.wBreak, DW.wCont, DW.wSet, DW.wAsg, DW.wNew, DW.wNewL, DW.wNewC, DW.wExpr, DW.wApp, DW.wExt, DW.wExtA, DW.wPop, DW.wAug, DW.wRaise, DW.wVar, DW.wC, DW.wRaw, DW.wOp, DW.wUn, DW.waNil, DW.waCons, DW.wCB, DW.wTup, DW.wLst, DW.wTest, DW.wYes, DW.wAnd, DW.wOr, DW.wNot, DW.wTr, DW.gTr, DW.wAndV, DW.wOrV, DW.wNotV, DW.wIf, DW.rdq, DW.frz, DW.asg, DW.avf, DW.wuNil, DW.wuCons, DW.wCall, DW.wCallK, DW.wgName, DW.wgTup, DW.wgCons, DW.wgNil,
  DW.wParN, DW.wnNil, DW.wnD, DW.wnNew, DW.asgN, DW.gAdd, DW.gSub, DW.gMul, DW.gMod, DW.gDiv, DW.gPow, DW.gLt, DW.gLe, DW.gGt, DW.gGe, DW.gEq, DW.gNe, DW.gInB, DW.gIs, DW.gIsNot, DW.gIx, DW.gNeg, DW.gLen, DW.gToT, DW.gToL, DW.gInt, DW.gAbs, DW.gRepr, DW.gMin2, DW.gMax2, DW.gOrd, DW.gStr, DW.gAddI, DW.gSubI, DW.gIsB, DW.gIsntB, DW.gRep, DW.wJoin, DW.gJoin, DW.wIndex, DW.gIndex, DW.wRg1, DW.wRg2, DW.LT.mk, DW.wiSeq, DW.wiRng1, DW.wiRng2, DW.wiRngB, DW.wiEnumX, DW.wiEnum, DW.wipeS, DL.truth, DL.isNo, DW.wIsi, DW.wSl, DW.gSl, DW.gRev, DW.woNone, DW.woSome, DW.wFor_eq, DW.wLc_eq, DW.wNewLc_eq, DW.one_ord, DW.one_len, DL.oD_len,
  DW.eqv_int, DW.sh_intT, true_and, List.getElem?_cons_zero, List.getElem?_cons_succ, List.set_cons_zero, List.set_cons_succ, List.length_cons, List.length_nil, if_true, if_false, decide_eq_true_eq, Bool.false_eq_true, reduceIte, List.cons_append, List.nil_append, Nat.reduceAdd, Bool.not_true, Bool.not_false])
local macro_rules | `(tactic| walk_at "ds") => `(tactic| repeat ((with_reducible refine DW.Kt_i ?_); (walk_at "dw")))
local macro_rules | `(tactic| walk_at "go") => `(tactic| ((walk_at "dw0"); (walk_at "dw"); (walk_at "ds")))
theorem go_get_value : Go_get_value := by
  rintro as ⟨xs, a, rfl, ho, hl, ha⟩
  unfold w_get_value rdArgs
  walk_at "go"
  have hz := sizeLine_eq
  have hl20 : xs.length < 1048576 := hl
  split
  · rename_i c1
    have e : xs[a]? = none := List.getElem?_eq_none (by omega)
    exact ⟨xs, a, a, rfl, by unfold rdVal; rw [e], rfl, rfl⟩
  · rename_i c1
    have hp : a < xs.length := by omega
    have e := List.getElem?_eq_getElem hp
    generalize xs[a] = o at e
    have oo := ho o (List.mem_of_getElem? e)
    have hr : rdVal xs a = if 2 < o then .bad a else if o = 0 then .ok .none (a + 1) else if o = 2 then rdText xs (a + 1) else match getN xs (a + 1) with
      | none => .bad (a + 1)
      | some (v, q) => if zag v < -1000000000000000000 ∨ 1000000000000000000 < zag v then .bad (a + 1) else .ok (.int (zag v)) q := by unfold rdVal; rw [e] <;> rfl
    have ea : ((a : Int) + 1) = ((a + 1 : Nat) : Int) := by omega
    refine ⟨.int o, L2.atI_nat (oD_get e), ?_⟩
    walk_at "dw"
    split
    · rename_i c2
      exact ⟨xs, a, a, rfl, by rw [hr, if_pos c2], rfl, rfl⟩
    · rename_i c2
      rw [if_neg c2] at hr
      walk_at "ds"
      refine ⟨.int o, L2.atI_nat (oD_get e), ?_⟩
      walk_at "dw"
      split
      · rename_i c3
        exact ⟨by decide, xs, a, _, a + 1, rfl, by rw [hr, if_pos c3], by unfold pairD; rw [Int.natCast_add]; rfl⟩
      · rename_i c3
        rw [if_neg c3] at hr
        walk_at "ds"
        refine ⟨.int o, L2.atI_nat (oD_get e), ?_⟩
        walk_at "dw"
        rw [ea]
        split
        · rename_i c4
          rw [if_pos c4] at hr
          refine ⟨⟨xs, a + 1, rfl, ho, hl, hp⟩, ?_, ?_⟩
          · rintro d ⟨xs', a', v, q, e2, hg, rfl⟩
            obtain ⟨rfl, rfl⟩ := rd_inj e2
            exact ⟨xs, a, v, q, rfl, by rw [hr, hg], rfl⟩
          · rintro c x ⟨xs', a', p, e2, hg, rfl, rfl⟩
            obtain ⟨rfl, rfl⟩ := rd_inj e2
            exact ⟨xs, a, p, rfl, by rw [hr, hg], rfl, rfl⟩
        · rename_i c4
          rw [if_neg c4] at hr
          walk_at "ds"
          rw [ea]
          refine ⟨⟨xs, a + 1, rfl, ho, hl, hp⟩, ?_, ?_⟩
          · rintro d ⟨xs', a', v, q, e2, hg, rfl⟩
            obtain ⟨rfl, rfl⟩ := rd_inj e2
            rw [hg] at hr
            have hr : rdVal xs a = if zag v < -1000000000000000000 ∨ 1000000000000000000 < zag v then .bad (a + 1) else .ok (.int (zag v)) q := hr
            unfold pairD
            walk_at "dw"
            walk_at "ds"
            split
            · rename_i c5
              exact ⟨xs, a, a + 1, rfl, by rw [hr, if_pos (.inl c5)], rfl, by rw [ea]⟩
            · rename_i c5
              split
              · rename_i c6
                exact ⟨xs, a, a + 1, rfl, by rw [hr, if_pos (.inr c6)], rfl, by rw [ea]⟩
              · rename_i c6
                walk_at "ds"
                exact ⟨by decide, xs, a, _, q, rfl, by rw [hr, if_neg (by rintro (z | z) <;> contradiction)], rfl⟩
          · rintro c x ⟨xs', a', e2, hg, rfl, rfl⟩
            obtain ⟨rfl, rfl⟩ := rd_inj e2
            rw [hg] at hr
            exact ⟨xs, a, a + 1, rfl, hr, rfl, rfl⟩
theorem go_get_end : Go_get_end := by
  rintro as ⟨xs, a, rfl, ho, hl, ha⟩
  unfold w_get_end rdArgs
  walk_at "go"
  have hz := sizeLine_eq
  have hl20 : xs.length < 1048576 := hl
  split
  · rename_i c1
    have e : xs[a]? = none := List.getElem?_eq_none (by omega)
    exact ⟨xs, a, a, rfl, by unfold rdEnd; rw [e], rfl, rfl⟩
  · rename_i c1
    have hp : a < xs.length := by omega
    have e := List.getElem?_eq_getElem hp
    generalize xs[a] = o at e
    have hr : rdEnd xs a = if 1 < o then .bad a else if o = 0 then .ok .none (a + 1) else rdKey xs (a + 1) := by unfold rdEnd; rw [e]
    have ea : ((a : Int) + 1) = ((a + 1 : Nat) : Int) := by omega
    refine ⟨.int o, L2.atI_nat (oD_get e), ?_⟩
    walk_at "dw"
    split
    · rename_i c2
      exact ⟨xs, a, a, rfl, by rw [hr, if_pos c2], rfl, rfl⟩
    · rename_i c2
      rw [if_neg c2] at hr
      walk_at "ds"
      refine ⟨.int o, L2.atI_nat (oD_get e), ?_⟩
      walk_at "dw"
      split
      · rename_i c3
        exact ⟨by decide, xs, a, _, a + 1, rfl, by rw [hr, if_pos c3], by unfold pairD; rw [Int.natCast_add]; rfl⟩
      · rename_i c3
        rw [if_neg c3] at hr
        walk_at "ds"
        rw [ea]
        refine ⟨⟨xs, a + 1, rfl, ho, hl, hp⟩, ?_, ?_⟩
        · rintro d ⟨xs', a', v, q, e2, hg, rfl⟩
          obtain ⟨rfl, rfl⟩ := rd_inj e2
          exact ⟨xs, a, v, q, rfl, by rw [hr, hg], rfl⟩
        · rintro c x ⟨xs', a', p, e2, hg, rfl, rfl⟩
          obtain ⟨rfl, rfl⟩ := rd_inj e2
          exact ⟨xs, a, p, rfl, by rw [hr, hg], rfl, rfl⟩
/-- what is read ends within the octets -/
theorem keyAt_le {xs : List Int} {a q : Nat} {z : Str} (h : keyAt xs a = some (z, q)) : a < q ∧ q ≤ xs.length := by
  unfold keyAt at h
  split at h
  · rename_i c; obtain ⟨rfl, rfl⟩ := Prod.mk.inj (Option.some.inj h); omega
  · cases h
theorem rdKey_le {xs : List Int} {a q : Nat} {v : PyData} (h : rdKey xs a = .ok v q) : a < q ∧ q ≤ xs.length := by
  unfold rdKey at h
  cases e : keyAt xs a with
  | none => rw [e] at h; cases h
  | some p => rw [e] at h; cases h; exact keyAt_le e
theorem goText_le {xs : List Int} : ∀ {k p q : Nat} {w : List Int} {v : PyData}, goText xs k p w = .ok v q → p ≤ xs.length → p ≤ q ∧ q ≤ xs.length
  | 0, p, q, w, v, h, hp => by cases h; exact ⟨Nat.le_refl _, hp⟩
  | k + 1, p, q, w, v, h, hp => by
    unfold goText at h
    cases e : xs[p]? with
    | none => rw [e] at h; cases h
    | some o =>
      rw [e] at h
      obtain ⟨hp2, _⟩ := List.getElem?_eq_some_iff.mp e
      have h : (if isTextC o = true then goText xs k (p + 1) (w ++ [o]) else .bad p) = .ok v q := h
      split at h
      · have := goText_le h hp2; omega
      · cases h
theorem rdText_le {xs : List Int} {a q : Nat} {v : PyData} (ho : Oct xs) (h : rdText xs a = .ok v q) : a < q ∧ q ≤ xs.length := by
  unfold rdText at h
  cases e : getN xs a with
  | none => rw [e] at h; cases h
  | some p =>
    obtain ⟨m, r⟩ := p
    rw [e] at h
    obtain ⟨m', rfl, h1, h2, _, _⟩ := getN_some ho e
    have h : (if (32 : Int) < (m' : Nat) then .bad a else goText xs ((m' : Nat) : Int).toNat r []) = .ok v q := h
    split at h
    · cases h
    · have := goText_le h h2; omega
theorem rdVal_le {xs : List Int} {a q : Nat} {v : PyData} (ho : Oct xs) (h : rdVal xs a = .ok v q) : a < q ∧ q ≤ xs.length := by
  unfold rdVal at h
  cases e : xs[a]? with
  | none => rw [e] at h; cases h
  | some o =>
    rw [e] at h
    obtain ⟨hp, _⟩ := List.getElem?_eq_some_iff.mp e
    dsimp only at h
    split at h
    · cases h
    · split at h
      · cases h; omega
      · split at h
        · have := rdText_le ho h; omega
        · cases e2 : getN xs (a + 1) with
          | none => rw [e2] at h; cases h
          | some p =>
            obtain ⟨m, r⟩ := p
            rw [e2] at h
            obtain ⟨m', rfl, h1, h2, _, _⟩ := getN_some ho e2
            dsimp only at h
            split at h
            · cases h
            · cases h; omega
theorem rdEnd_le {xs : List Int} {a q : Nat} {v : PyData} (h : rdEnd xs a = .ok v q) : a < q ∧ q ≤ xs.length := by
  unfold rdEnd at h
  cases e : xs[a]? with
  | none => rw [e] at h; cases h
  | some o =>
    rw [e] at h
    obtain ⟨hp, _⟩ := List.getElem?_eq_some_iff.mp e
    dsimp only at h
    split at h
    · cases h
    · split at h
      · cases h; omega
      · have := rdKey_le h; omega
theorem go_get_range : Go_get_range := by
  rintro as ⟨xs, a, rfl, ho, hl, ha⟩
  unfold w_get_range rdArgs
  walk_at "go"
  refine ⟨⟨xs, a, rfl, ho, hl, ha⟩, ?_, ?_⟩
  · rintro d ⟨xs', a', v, q, e, hg, rfl⟩
    obtain ⟨rfl, rfl⟩ := rd_inj e
    have hq := rdEnd_le hg
    unfold pairD
    walk_at "dw"
    walk_at "ds"
    refine ⟨⟨xs, q, rfl, ho, hl, hq.2⟩, ?_, ?_⟩
    · rintro d ⟨xs', a', v', q', e, hg', rfl⟩
      obtain ⟨rfl, rfl⟩ := rd_inj e
      unfold pairD
      walk_at "dw"
      walk_at "ds"
      exact ⟨by decide, by decide, xs, a, _, q', rfl, by unfold rdRange; rw [hg]; dsimp only; rw [hg'], rfl⟩
    · rintro c x ⟨xs', a', p, e2, hg', rfl, rfl⟩
      obtain ⟨rfl, rfl⟩ := rd_inj e2
      exact ⟨xs, a, p, rfl, by unfold rdRange; rw [hg]; dsimp only; rw [hg'], rfl, rfl⟩
  · rintro c x ⟨xs', a', p, e2, hg, rfl, rfl⟩
    obtain ⟨rfl, rfl⟩ := rd_inj e2
    exact ⟨xs, a, p, rfl, by unfold rdRange; rw [hg], rfl, rfl⟩
theorem go_put_entries : Go_put_entries := by
  rintro as ⟨ps, rfl, h1, h2⟩
  unfold w_put_entries
  walk_at "go"
  exact ⟨⟨ps, rfl, h1, h2⟩, fun d h => h, fun _ _ z => z⟩
theorem go_get_writes : Go_get_writes := by
  rintro as ⟨xs, a, rfl, ho, hl, ha⟩
  unfold w_get_writes rdArgs
  walk_at "go"
  refine ⟨⟨xs, a, true, rfl, ho, hl, ha⟩, ?_, ?_⟩
  · rintro d ⟨xs', a', b, v, q, e, hg, rfl⟩
    obtain ⟨rfl, rfl⟩ := rd_inj (b := a') (ys := xs') (congrArg (List.take 2) e)
    cases AV.d.inj (List.cons.inj (List.cons.inj (List.cons.inj e).2).2).1
    exact ⟨xs, a, v, q, rfl, hg, rfl⟩
  · rintro c x ⟨xs', a', b, p, e, hg, rfl, rfl⟩
    obtain ⟨rfl, rfl⟩ := rd_inj (b := a') (ys := xs') (congrArg (List.take 2) e)
    cases AV.d.inj (List.cons.inj (List.cons.inj (List.cons.inj e).2).2).1
    exact ⟨xs, a, p, rfl, hg, rfl, rfl⟩
theorem go_get_entries : Go_get_entries := by
  rintro as ⟨xs, a, rfl, ho, hl, ha⟩
  unfold w_get_entries rdArgs
  walk_at "go"
  refine ⟨⟨xs, a, false, rfl, ho, hl, ha⟩, ?_, ?_⟩
  · rintro d ⟨xs', a', b, v, q, e, hg, rfl⟩
    obtain ⟨rfl, rfl⟩ := rd_inj (b := a') (ys := xs') (congrArg (List.take 2) e)
    cases AV.d.inj (List.cons.inj (List.cons.inj (List.cons.inj e).2).2).1
    exact ⟨xs, a, v, q, rfl, hg, rfl⟩
  · rintro c x ⟨xs', a', b, p, e, hg, rfl, rfl⟩
    obtain ⟨rfl, rfl⟩ := rd_inj (b := a') (ys := xs') (congrArg (List.take 2) e)
    cases AV.d.inj (List.cons.inj (List.cons.inj (List.cons.inj e).2).2).1
    exact ⟨xs, a, p, rfl, hg, rfl, rfl⟩
end K04

namespace K04
open PySem PySem.Spec
open PyProof.Rows L2 DL DW
local macro_rules | `(tactic| walk_at "dw0") => `(tactic| simp only [DW.startS, DW.AV.sv, List.map_cons, List.map_nil, List.length_cons, List.length_nil, List.replicate_succ, List.replicate_zero, List.cons_append, List.nil_append, Nat.reduceAdd, Nat.reduceSub])
local macro_rules | `(tactic| walk_at "dw") => `(tactic| simp only [DW.wSeq, DW.wNext, DW.wIfS, DW.wRet, DW.wRetN, DW.wBreak, DW.wCont, DW.wSet, DW.wAsg, DW.wNew, DW.wNewL, DW.wNewC, DW.wExpr, DW.wApp, DW.wExt, DW.wExtA, DW.wPop, DW.wAug, DW.wRaise, DW.wVar, DW.wC, DW.wRaw, DW.wOp, DW.wUn, DW.waNil, DW.waCons, DW.wCB, DW.wTup, DW.wLst, DW.wTest, DW.wYes, DW.wAnd, DW.wOr, DW.wNot, DW.wTr, DW.gTr, DW.wAndV, DW.wOrV, DW.wNotV, DW.wIf, DW.rdq, DW.frz, DW.asg, DW.avf, DW.wuNil, DW.wuCons, DW.wCall, DW.wCallK, DW.wgName, DW.wgTup, DW.wgCons, DW.wgNil,
  DW.wParN, DW.wnNil, DW.wnD, DW.wnNew, DW.asgN, DW.gAdd, DW.gSub, DW.gMul, DW.gMod, DW.gDiv, DW.gPow, DW.gLt, DW.gLe, DW.gGt, DW.gGe, DW.gEq, DW.gNe, DW.gInB, DW.gIs, DW.gIsNot, DW.gIx, DW.gNeg, DW.gLen, DW.gToT, DW.gToL, DW.gInt, DW.gAbs, DW.gRepr, DW.gMin2, DW.gMax2, DW.gOrd, DW.gStr, DW.gAddI, DW.gSubI, DW.gIsB, DW.gIsntB, DW.gRep, DW.wJoin, DW.gJoin, DW.wIndex, DW.gIndex, DW.wRg1, DW.wRg2, DW.LT.mk, DW.wiSeq, DW.wiRng1, DW.wiRng2, DW.wiRngB, DW.wiEnumX, DW.wiEnum, DW.wipeS, DL.truth, DL.isNo, DW.wIsi, DW.wSl, DW.gSl, DW.gRev, DW.woNone, DW.woSome, DW.wFor_eq, DW.wLc_eq, DW.wNewLc_eq, DW.one_ord, DW.one_len, DL.oD_len,
  DW.eqv_int, DW.sh_intT, true_and, List.getElem?_cons_zero, List.getElem?_cons_succ, List.set_cons_zero, List.set_cons_succ, List.length_cons, List.length_nil, if_true, if_false, decide_eq_true_eq, Bool.false_eq_true, reduceIte, List.cons_append, List.nil_append, Nat.reduceAdd, Bool.not_true, Bool.not_false])
local macro_rules | `(tactic| walk_at "ds") => `(tactic| repeat ((with_reducible refine DW.Kt_i ?_); (walk_at "dw")))
local macro_rules | `(tactic| walk_at "go") => `(tactic| ((walk_at "dw0"); (walk_at "dw"); (walk_at "ds")))
theorem encVal_len {v : PyData} (h : OkVal v) : (encVal v).length ≤ 42 := by
  cases v with
  | str z =>
    have hc : (codes z).length = z.length := codes_len z
    have h1 := figsN_len z.length
    have h2 : z.length ≤ 32 := h
    unfold encVal encText
    simp
    omega
  | int i => have h1 := figsN_len (zig i); unfold encVal; simp; omega
  | _ => exact (by decide : 1 ≤ 42)
theorem pr_len {p : Str × PyData} (h : p.1.length ≤ 16 ∧ OkVal p.2) : (encKey p.1 ++ encVal p.2).length ≤ 59 := by
  have hc : (codes p.1).length = p.1.length := codes_len p.1
  have h1 := encVal_len h.2
  unfold encKey
  simp
  omega
theorem prs_len {ps : List (Str × PyData)} (h : ∀ p ∈ ps, p.1.length ≤ 16 ∧ OkVal p.2) : (ps.flatMap fun p => encKey p.1 ++ encVal p.2).length ≤ 59 * ps.length := by
  induction ps with
  | nil => simp
  | cons p ps ih =>
    rw [List.flatMap_cons, List.length_append, List.length_cons]
    have h1 := pr_len (h p (by simp))
    have h2 := ih fun q hq => h q (by simp [hq])
    omega
theorem prs_step {ps : List (Str × PyData)} {i : Nat} {p : Str × PyData} (h : ps[i]? = some p) : (ps.take (i + 1)).flatMap (fun p => encKey p.1 ++ encVal p.2) = (ps.take i).flatMap (fun p => encKey p.1 ++ encVal p.2) ++ (encKey p.1 ++ encVal p.2) := by
  rw [List.take_add_one, h]; simp
theorem go_put_writes : Go_put_writes := by
  rintro as ⟨ps, rfl, hl, hb⟩
  unfold w_put_writes pairsD
  walk_at "go"
  have hz := sizeLine_eq
  have hp := p9
  rw [List.length_map]
  refine ⟨⟨ps.length, rfl, by omega⟩, ?_, fun _ _ z => z.elim⟩
  rintro d ⟨n, e, rfl⟩
  cases one_arg_int e
  walk_at "dw"
  walk_at "ds"
  refine ⟨fun i s => ∃ v w, s = [some (.d (.tuple (ps.map prD))), some (.own (oD (figsN ps.length ++ (ps.take i).flatMap fun p => encKey p.1 ++ encVal p.2))), v, w], ⟨none, none, by simp⟩, ?_, ?_⟩
  · rintro i d s2 hd ⟨v, w, rfl⟩
    rw [List.getElem?_map] at hd
    cases hx : ps[i]? with
    | none => rw [hx] at hd; cases hd
    | some p =>
      rw [hx] at hd
      cases hd
      obtain ⟨h1, h2⟩ := hb p (List.mem_of_getElem? hx)
      unfold prD
      walk_at "dw"
      have l1 := figsN_len ps.length
      have l2 := prs_len (ps := ps.take i) fun q hq => hb q (List.mem_of_mem_take hq)
      have l3 : (ps.take i).length ≤ ps.length := by rw [List.length_take]; omega
      have l4 := pr_len ⟨h1, h2⟩
      rw [List.length_append] at l4
      refine ⟨⟨_, rfl⟩, ⟨p.1, rfl, h1⟩, ?_, fun _ _ z => z.elim⟩
      rintro d ⟨z, e, rfl⟩
      cases one_arg_str e
      walk_at "dw"
      refine ⟨by rw [List.length_append]; omega, ?_⟩
      walk_at "ds"
      refine ⟨⟨_, rfl⟩, ⟨p.2, rfl, h2⟩, ?_, fun _ _ z => z.elim⟩
      rintro d ⟨z, e, rfl⟩
      cases one_arg_d e
      walk_at "dw"
      refine ⟨by rw [List.length_append, oD_len, List.length_append, oD_len]; omega, _, _, by rw [oD_app, oD_app, prs_step hx, List.append_assoc, List.append_assoc]⟩
  · rintro s2 ⟨v, w, rfl⟩
    walk_at "ds"
    exact ⟨ps, rfl, by rw [List.length_map, List.take_length]; rfl⟩
theorem behind_eq {ps : List (Str × PyData)} {z : Str} (h : ps ≠ []) : ∃ p, ps.getLast? = some p ∧ behind ps z = !sLt p.1 z ∧ atI (ps.map prD) (-1) = some (prD p) := by
  cases e : ps.getLast? with
  | none => exact absurd (List.getLast?_eq_none_iff.mp e) h
  | some p =>
    refine ⟨p, rfl, by unfold behind; rw [e], ?_⟩
    rw [List.getLast?_eq_getElem?] at e
    have hn : ps.length ≠ 0 := by intro z; exact h (List.length_eq_zero_iff.mp z)
    exact DL.atI_m1 (k := ps.length - 1) (by rw [List.getElem?_map, e]; rfl) (by rw [List.length_map]; omega)
theorem go_get_pairs : Go_get_pairs := by
  rintro as ⟨xs, a, b, rfl, ho, hl, ha⟩
  unfold w_get_pairs rdArgs
  walk_at "go"
  have hz := sizeLine_eq
  have hp := p9
  have hl20 : xs.length < 1048576 := hl
  refine ⟨⟨xs, a, rfl, ho, hl, ha⟩, ?_, ?_⟩
  · rintro d ⟨xs', a', v, q, e, hg, rfl⟩
    obtain ⟨rfl, rfl⟩ := rd_inj e
    obtain ⟨m, rfl, h1, h2, h3, hm⟩ := getN_some ho hg
    unfold pairD
    walk_at "dw"
    walk_at "ds"
    refine ⟨⟨by omega, by omega⟩, fun i s => ∃ (p : Nat) (ps : List (Str × PyData)) (v6 v7 v8 v9 : Option SV), s = [some (.d (.tuple (oD xs))), some (.d (.int a)), some (.d (.bool b)), some (.d (.int (m : Nat))), some (.d (.int (p : Nat))), some (.own (ps.map prD)), v6, v7, v8, v9] ∧ p ≤ xs.length ∧ ps.length ≤ p ∧ goPairs xs b (m - i) p ps = rdPairs b xs a,
      ⟨q, [], none, none, none, none, rfl, h2, Nat.zero_le _, by unfold rdPairs; rw [hg]; rfl⟩, ?_, ?_⟩
    · rintro i d s2 hd ⟨p, ps, v6, v7, v8, v9, rfl, hp1, hp2, hr⟩
      obtain ⟨rfl, hk⟩ := rngD_at hd
      have ei : m - i = (m - (i + 1)) + 1 := by omega
      rw [ei] at hr
      unfold goPairs at hr
      walk_at "dw"
      refine ⟨⟨xs, p, rfl, ho, hl, hp1⟩, ?_, ?_⟩
      · rintro d ⟨xs', a', v, q', e, hg', rfl⟩
        obtain ⟨rfl, rfl⟩ := rd_inj e
        have hq := rdKey_le hg'
        unfold rdKey at hg'
        cases ek : keyAt xs p with
        | none => rw [ek] at hg'; cases hg'
        | some zq =>
          obtain ⟨z, q2⟩ := zq
          rw [ek] at hg' hr
          cases hg'
          have hr : (if behind ps z = true then .bad p else match rdVal xs q' with
            | .bad r => .bad r
            | .ok v r => if (isNo v && !b) = true then .bad q' else goPairs xs b (m - (i + 1)) r (ps ++ [(z, v)])) = rdPairs b xs a := hr
          unfold pairD
          walk_at "dw"
          walk_at "ds"
          refine ite_use (fun c => ?_) fun c => ?_
          · obtain ⟨pp, e1, e2, e3⟩ := behind_eq (ps := ps) (z := z) (by rintro rfl; exact absurd c (by decide))
            refine ⟨_, e3, ?_⟩
            unfold prD
            walk_at "dw"
            refine ⟨_, rfl, ?_⟩
            walk_at "dw"
            rw [e2] at hr
            refine ite_use (fun c2 => ?_) fun c2 => ?_
            · rw [if_pos c2] at hr
              exact ⟨xs, a, b, p, rfl, hr.symm, rfl, rfl⟩
            · rw [if_neg c2] at hr
              walk_at "ds"
              refine ⟨⟨xs, q', rfl, ho, hl, hq.2⟩, ?_, ?_⟩
              · rintro d ⟨xs', a', v, r, e, hv, rfl⟩
                obtain ⟨rfl, rfl⟩ := rd_inj e
                have hrl := rdVal_le ho hv
                rw [hv] at hr
                have hr : (if (isNo v && !b) = true then .bad q' else goPairs xs b (m - (i + 1)) r (ps ++ [(z, v)])) = rdPairs b xs a := hr
                unfold pairD
                have fin : (isNo v && !b) = false → goPairs xs b (m - (i + 1)) r (ps ++ [(z, v)]) = rdPairs b xs a := fun h => by rw [if_neg (by rw [h]; decide)] at hr; exact hr
                cases v with
                | none =>
                  cases b with
                  | false =>
                    walk_at "dw"
                    walk_at "ds"
                    exact ⟨xs, a, false, q', rfl, hr.symm, rfl, rfl⟩
                  | true =>
                    walk_at "dw"
                    walk_at "ds"
                    exact ⟨⟨_, rfl⟩, by decide, by rw [List.length_map]; omega, r, ps ++ [(z, _)], _, _, _, _, by rw [List.map_append]; rfl, hrl.2, by rw [List.length_append, List.length_singleton]; omega, fin rfl⟩
                | _ =>
                  walk_at "dw"
                  walk_at "ds"
                  exact ⟨⟨_, rfl⟩, by decide, by rw [List.length_map]; omega, r, ps ++ [(z, _)], _, _, _, _, by rw [List.map_append]; rfl, hrl.2, by rw [List.length_append, List.length_singleton]; omega, fin rfl⟩
              · rintro c x ⟨xs', a', p', e, hv, rfl, rfl⟩
                obtain ⟨rfl, rfl⟩ := rd_inj e
                rw [hv] at hr
                exact ⟨xs, a, b, p', rfl, hr.symm, rfl, rfl⟩
          · have hn : ps = [] := by
              cases ps with
              | nil => rfl
              | cons _ _ => exact absurd rfl c
            have hb2 : behind ps z = false := by rw [hn]; rfl
            rw [if_neg (by rw [hb2]; decide)] at hr
            walk_at "ds"
            refine ⟨⟨xs, q', rfl, ho, hl, hq.2⟩, ?_, ?_⟩
            · rintro d ⟨xs', a', v, r, e, hv, rfl⟩
              obtain ⟨rfl, rfl⟩ := rd_inj e
              have hrl := rdVal_le ho hv
              rw [hv] at hr
              have hr : (if (isNo v && !b) = true then .bad q' else goPairs xs b (m - (i + 1)) r (ps ++ [(z, v)])) = rdPairs b xs a := hr
              unfold pairD
              have fin : (isNo v && !b) = false → goPairs xs b (m - (i + 1)) r (ps ++ [(z, v)]) = rdPairs b xs a := fun h => by rw [if_neg (by rw [h]; decide)] at hr; exact hr
              cases v with
              | none =>
                cases b with
                | false =>
                  walk_at "dw"
                  walk_at "ds"
                  exact ⟨xs, a, false, q', rfl, hr.symm, rfl, rfl⟩
                | true =>
                  walk_at "dw"
                  walk_at "ds"
                  exact ⟨⟨_, rfl⟩, by decide, by rw [List.length_map]; omega, r, ps ++ [(z, _)], _, _, _, _, by rw [List.map_append]; rfl, hrl.2, by rw [List.length_append, List.length_singleton]; omega, fin rfl⟩
              | _ =>
                walk_at "dw"
                walk_at "ds"
                exact ⟨⟨_, rfl⟩, by decide, by rw [List.length_map]; omega, r, ps ++ [(z, _)], _, _, _, _, by rw [List.map_append]; rfl, hrl.2, by rw [List.length_append, List.length_singleton]; omega, fin rfl⟩
            · rintro c x ⟨xs', a', p', e, hv, rfl, rfl⟩
              obtain ⟨rfl, rfl⟩ := rd_inj e
              rw [hv] at hr
              exact ⟨xs, a, b, p', rfl, hr.symm, rfl, rfl⟩
      · rintro c x ⟨xs', a', p', e, hg', rfl, rfl⟩
        obtain ⟨rfl, rfl⟩ := rd_inj e
        unfold rdKey at hg'
        cases ek : keyAt xs p with
        | none => rw [ek] at hg' hr; cases hg'; exact ⟨xs, a, b, p, rfl, hr.symm, rfl, rfl⟩
        | some zq => rw [ek] at hg'; cases hg'
    · rintro s2 ⟨p, ps, v6, v7, v8, v9, rfl, hp1, hp2, hr⟩
      walk_at "ds"
      have e0 : m - (rngD 0 ((m : Nat) : Int)).length = 0 := by rw [rngD_len]; omega
      rw [e0] at hr
      exact ⟨by decide, xs, a, b, _, p, rfl, hr.symm, rfl⟩
  · rintro c x ⟨xs', a', e, hg, rfl, rfl⟩
    obtain ⟨rfl, rfl⟩ := rd_inj e
    exact ⟨xs, a, b, a, rfl, by unfold rdPairs; rw [hg], rfl, rfl⟩
end K04

namespace K04
open PySem PySem.Spec
open PyProof.Rows L2 DL DW
local macro_rules | `(tactic| walk_at "dw0") => `(tactic| simp only [DW.startS, DW.AV.sv, List.map_cons, List.map_nil, List.length_cons, List.length_nil, List.replicate_succ, List.replicate_zero, List.cons_append, List.nil_append, Nat.reduceAdd, Nat.reduceSub])
local macro_rules | `(tactic| walk_at "dw") => `(tactic| simp only [DW.wSeq, DW.wNext, DW.wIfS, DW.wRet, DW.wRetN, DW.wBreak, DW.wCont, DW.wSet, DW.wAsg, DW.wNew, DW.wNewL, DW.wNewC, DW.wExpr, DW.wApp, DW.wExt, DW.wExtA, DW.wPop, DW.wAug, DW.wRaise, DW.wVar, DW.wC, DW.wRaw, DW.wOp, DW.wUn, DW.waNil, DW.waCons, DW.wCB, DW.wTup, DW.wLst, DW.wTest, DW.wYes, DW.wAnd, DW.wOr, DW.wNot, DW.wTr, DW.gTr, DW.wAndV, DW.wOrV, DW.wNotV, DW.wIf, DW.rdq, DW.frz, DW.asg, DW.avf, DW.wuNil, DW.wuCons, DW.wCall, DW.wCallK, DW.wgName, DW.wgTup, DW.wgCons, DW.wgNil,
  DW.wParN, DW.wnNil, DW.wnD, DW.wnNew, DW.asgN, DW.gAdd, DW.gSub, DW.gMul, DW.gMod, DW.gDiv, DW.gPow, DW.gLt, DW.gLe, DW.gGt, DW.gGe, DW.gEq, DW.gNe, DW.gInB, DW.gIs, DW.gIsNot, DW.gIx, DW.gNeg, DW.gLen, DW.gToT, DW.gToL, DW.gInt, DW.gAbs, DW.gRepr, DW.gMin2, DW.gMax2, DW.gOrd, DW.gStr, DW.gAddI, DW.gSubI, DW.gIsB, DW.gIsntB, DW.gRep, DW.wJoin, DW.gJoin, DW.wIndex, DW.gIndex, DW.wRg1, DW.wRg2, DW.LT.mk, DW.wiSeq, DW.wiRng1, DW.wiRng2, DW.wiRngB, DW.wiEnumX, DW.wiEnum, DW.wipeS, DL.truth, DL.isNo, DW.wIsi, DW.wSl, DW.gSl, DW.gRev, DW.woNone, DW.woSome, DW.wFor_eq, DW.wLc_eq, DW.wNewLc_eq, DW.one_ord, DW.one_len, DL.oD_len,
  DW.eqv_int, DW.sh_intT, true_and, List.getElem?_cons_zero, List.getElem?_cons_succ, List.set_cons_zero, List.set_cons_succ, List.length_cons, List.length_nil, if_true, if_false, decide_eq_true_eq, Bool.false_eq_true, reduceIte, List.cons_append, List.nil_append, Nat.reduceAdd, Bool.not_true, Bool.not_false])
local macro_rules | `(tactic| walk_at "ds") => `(tactic| repeat ((with_reducible refine DW.Kt_i ?_); (walk_at "dw")))
local macro_rules | `(tactic| walk_at "go") => `(tactic| ((walk_at "dw0"); (walk_at "dw"); (walk_at "ds")))
/-! ### the law's own readers -/
def ownD : Rd → PyData
  | .ok v q => pairD v q
  | .bad p => pairD .none p
/-- a value in a list of its own -/
def ownV : Rd → PyData
  | .ok v q => pairD (.list [v]) q
  | .bad p => pairD .none p
def postO (f : List Int → Nat → Rd) (as : List AV) (d : PyData) : Prop := ∃ xs a, as = rdArgs xs a ∧ d = ownD (f xs a)
def postV (f : List Int → Nat → Rd) (as : List AV) (d : PyData) : Prop := ∃ xs a, as = rdArgs xs a ∧ d = ownV (f xs a)
def rdNum (xs : List Int) (a : Nat) : Rd := match getN xs a with
  | none => .bad a
  | some (v, q) => .ok (.int v) q
abbrev pre__law_number_at := preR
abbrev post__law_number_at := postO rdNum
abbrev exc__law_number_at := noE
abbrev len__law_number_at := len_preR
abbrev pre__law_key_at := preR
abbrev post__law_key_at := postO rdKey
abbrev exc__law_key_at := noE
abbrev len__law_key_at := len_preR
abbrev pre__law_text_at := preR
abbrev post__law_text_at := postO rdText
abbrev exc__law_text_at := noE
abbrev len__law_text_at := len_preR
abbrev pre__law_value_at := preR
abbrev post__law_value_at := postV rdVal
abbrev exc__law_value_at := noE
abbrev len__law_value_at := len_preR
abbrev pre__law_numbers_at := preR
abbrev post__law_numbers_at := postO rdNums
abbrev exc__law_numbers_at := noE
abbrev len__law_numbers_at := len_preR
abbrev pre__law_range_at := preR
abbrev post__law_range_at := postO rdRange
abbrev exc__law_range_at := noE
abbrev len__law_range_at := len_preR
abbrev pre__law_pairs_at := pre_get_pairs
def post__law_pairs_at (as : List AV) (d : PyData) : Prop := ∃ xs a b, as = rdArgs xs a ++ [.d (.bool b)] ∧ d = ownD (rdPairs (!b) xs a)
abbrev exc__law_pairs_at := noE
abbrev len__law_pairs_at := len_get_pairs
section
variable {P : Program} {w : World} {K : PySem.W.Frag} {mg : Str → Option Value} {base : Heap} {f : Addr} {fd : FuncData}
abbrev s__law_number_at : Stmt := top 44
abbrev N__law_number_at : List Str := ["_law_octets", "_law_at", "_law_total", "_law_place", "_law_size", "_law_turn", "_law_octet"]
theorem sc__law_number_at : FnScope N__law_number_at ["_law_octets", "_law_at"] (defScope s__law_number_at) := ⟨rfl, rfl, rfl, by decide +kernel, rfl, by decide +kernel, by decide +kernel⟩
def w__law_number_at : WS := (wSeq (wParN [2, 3, 4] (wnD (wC (.int 0)) (wnD (wVar 1) (wnD (wC (.int 1)) wnNil))))
 (wSeq (wFor (wiRng1 (waCons (wC (.int 9)) waNil)) (wgName 5)
 (wSeq (wIfS (wTest (wOp gGe (wVar 3) (wUn gLen (wVar 0)))) (wRet (wTup (waCons (wC .none) (waCons (wVar 1) waNil))))
 wNext)
 (wSeq (wSet 6 (wOp gIx (wVar 0) (wVar 3)))
 (wSeq (wParN [2, 3] (wnD (wOp gAdd (wVar 2) (wOp gMul (wVar 4) (wIf (wTest (wOp gGt (wVar 6) (wC (.int 127)))) (wOp gSub (wVar 6) (wC (.int 128))) (wVar 6)))) (wnD (wOp gAdd (wVar 3) (wC (.int 1))) wnNil)))
 (wSeq (wIfS (wTest (wOp gLt (wVar 6) (wC (.int 128)))) (wRet (wIf (wAnd (wTest (wOp gEq (wVar 6) (wC (.int 0)))) (wTest (wOp gGt (wVar 5) (wC (.int 0))))) (wTup (waCons (wC .none) (waCons (wVar 1) waNil))) (wTup (waCons (wVar 2) (waCons (wVar 3) waNil)))))
 wNext)
 (wSet 4 (wOp gMul (wC (.int 128)) (wVar 4))))))))
 (wRet (wTup (waCons (wC .none) (waCons (wVar 1) waNil))))))
def Go__law_number_at : Prop := ∀ as, pre__law_number_at as → w__law_number_at (startS 7 as) ⟨fun _ => post__law_number_at as .none, fun d _ => post__law_number_at as d, fun _ => False, fun _ => False, fun c x _ => exc__law_number_at as c x⟩
theorem ok__law_number_at (go : Go__law_number_at) (F : FnP K "_law_number_at" s__law_number_at f fd) (T : Fx mg)  : FnG P w K mg base (L2.CX P w) 1 f fd ["_law_octets", "_law_at"] (spU K (erL K) anyM pre__law_number_at post__law_number_at exc__law_number_at) := by
  have nd := sc__law_number_at.nd
  refine fn_w (ws := w__law_number_at) F sc__law_number_at len__law_number_at (by decide) (fun cdv A out s H E hG hr => ?_) go
  exact ⟨_, (dss_cons (ds_parN3 (fun h => ps_par3 (i := 2) (j := 3) (l := 4) (by rfl) nd rfl rfl rfl (by decide) (by decide) (by decide) rfl rfl rfl h (by rfl)) (dn_d (de_int pe_int) (dn_d (de_var (pv 1)) (dn_d (de_int pe_int) dn_nil))))
 (dss_cons (ds_for (passes_of rfl) rfl (di_rng1 rfl T.b_range (da_cons' (de_int pe_int) da_nil')) (dg_name (pg_name (i := 5) nd rfl (Or.inl rfl)))
 (dss_cons (ds_if (dt_cmp op_geW os_ge (nomark _) (de_var (pv 3)) (de_b1 (cl_lenK K rfl) us_len T.b_len (de_var (pv 0)))) (dss_one (ds_ret (de_tup (da_cons' (de_non pe_non) (da_cons' (de_var (pv 1)) da_nil')))))
 dss_nil)
 (dss_cons (ds_set (i := 6) nd rfl (Or.inl rfl) (de_ix rfl (de_var (pv 0)) (de_var (pv 3))))
 (dss_cons (ds_parN (fun h => ps_par (i := 2) (j := 3) (by rfl) nd rfl rfl (by decide) rfl rfl h (by rfl)) (dn_d (de_op (op_addW rfl) os_add (de_var (pv 2)) (de_op op_mulW os_mul (de_var (pv 4)) (de_ifx (dt_cmp op_gtW os_gt (nomark _) (de_var (pv 6)) (de_int pe_int)) (de_op op_sub os_sub (de_var (pv 6)) (de_int pe_int)) (de_var (pv 6))))) (dn_d (de_op (op_addW rfl) os_add (de_var (pv 3)) (de_int pe_int)) dn_nil)))
 (dss_cons (ds_if (dt_cmp op_ltW os_lt (nomark _) (de_var (pv 6)) (de_int pe_int)) (dss_one (ds_ret (de_ifx (dt_w (dw_and (dt_cmp (op_eqW rfl (hu64 hr)) os_eq (nomark _) (de_var (pv 6)) (de_int pe_int)) (dw_and1 (dt_cmp op_gtW os_gt (nomark _) (de_var (pv 5)) (de_int pe_int))))) (de_tup (da_cons' (de_non pe_non) (da_cons' (de_var (pv 1)) da_nil'))) (de_tup (da_cons' (de_var (pv 2)) (da_cons' (de_var (pv 3)) da_nil'))))))
 dss_nil)
 (dss_one (ds_set (i := 4) nd rfl (Or.inl rfl) (de_op op_mulW os_mul (de_int pe_int) (de_var (pv 4))))))))))
 (dss_one (ds_ret (de_tup (da_cons' (de_non pe_non) (da_cons' (de_var (pv 1)) da_nil')))))))⟩

abbrev s__law_key_at : Stmt := top 45
abbrev N__law_key_at : List Str := ["_law_octets", "_law_at", "_law_codes", "_law_signs", "_law_ends", "_law_place", "_law_octet"]
theorem sc__law_key_at : FnScope N__law_key_at ["_law_octets", "_law_at"] (defScope s__law_key_at) := ⟨rfl, rfl, rfl, by decide +kernel, rfl, by decide +kernel, by decide +kernel⟩
def w__law_key_at : WS := (wSeq (wAsg (wTup (waCons (wOp gAdd (wOp gAdd (wRg2 .list (wC (.int 48)) (wC (.int 58))) (wLst (waCons (wC (.int 95)) waNil))) (wRg2 .list (wC (.int 97)) (wC (.int 123)))) (waCons (wC (.str "0123456789_abcdefghijklmnopqrstuvwxyz")) waNil))) (wgTup 2 (wgCons (wgName 2) (wgCons (wgName 3) wgNil))))
 (wSeq (wSet 4 (wLc (wiRng2 (waCons (wVar 1) (waCons (wUn gLen (wVar 0)) waNil))) (wgName 5) (wTest (wOp gEq (wOp gIx (wVar 0) (wVar 5)) (wC (.int 0)))) (wVar 5) [5]))
 (wSeq (wIfS (wOr (wTest (wOp gEq (wVar 4) (wLst waNil))) (wOr (wNot (wTest (wChain gLt gLt (wC (.int 0)) (wOp gSub (wOp gIx (wVar 4) (wC (.int 0))) (wVar 1)) (wC (.int 17))))) (wTest (wOp gNe (wLc (wiSeq (wSl (wVar 0) (woSome (wVar 1)) (woSome (wOp gIx (wVar 4) (wC (.int 0)))))) (wgName 6) (wTest (wOp gNotIn (wVar 6) (wVar 2))) (wVar 6) [6]) (wLst waNil))))) (wRet (wTup (waCons (wC .none) (waCons (wVar 1) waNil))))
 wNext)
 (wRet (wTup (waCons (wJoin (wC (.str "")) (wLc (wiSeq (wSl (wVar 0) (woSome (wVar 1)) (woSome (wOp gIx (wVar 4) (wC (.int 0)))))) (wgName 6) wYes (wOp gIx (wVar 3) (wIndex (wVar 2) (wVar 6))) [6])) (waCons (wOp gAdd (wOp gIx (wVar 4) (wC (.int 0))) (wC (.int 1))) waNil)))))))
def Go__law_key_at : Prop := ∀ as, pre__law_key_at as → w__law_key_at (startS 7 as) ⟨fun _ => post__law_key_at as .none, fun d _ => post__law_key_at as d, fun _ => False, fun _ => False, fun c x _ => exc__law_key_at as c x⟩
theorem ok__law_key_at (go : Go__law_key_at) (F : FnP K "_law_key_at" s__law_key_at f fd) (T : Fx mg)  : FnG P w K mg base (L2.CX P w) 1 f fd ["_law_octets", "_law_at"] (spU K (erL K) anyM pre__law_key_at post__law_key_at exc__law_key_at) := by
  have nd := sc__law_key_at.nd
  refine fn_w (ws := w__law_key_at) F sc__law_key_at len__law_key_at (by decide) (fun cdv A out s H E hG hr => ?_) go
  exact ⟨_, (dss_cons (ds_asg (de_tup (da_cons' (de_op (op_addW rfl) os_add (de_op (op_addW rfl) os_add (de_listRg2 rfl rfl T.b_list T.b_range (de_int pe_int) (de_int pe_int)) (de_lst (da_cons' (de_int pe_int) da_nil'))) (de_listRg2 rfl rfl T.b_list T.b_range (de_int pe_int) (de_int pe_int))) (da_cons' (de_str pe_str) da_nil'))) (dg_tup rfl rfl (dgs_cons (dg_name (pg_name (i := 2) nd rfl (Or.inr rfl))) (dgs_cons (dg_name (pg_name (i := 3) nd rfl (Or.inr rfl))) dgs_nil))))
 (dss_cons (ds_setLc (i := 4) (own := [("_law_place", 5)]) (g := (gName 5)) rfl nd rfl rfl (sw_true rfl rfl rfl (by decide +kernel)) (di_rng2 rfl T.b_range (da_cons' (de_var (pv 1)) (da_cons' (de_b1 (cl_lenK K rfl) us_len T.b_len (de_var (pv 0))) da_nil'))) (blkOk_by (own := [("_law_place", 5)]) (N := N__law_key_at) (sc := defScope s__law_key_at) (by decide +kernel)) (tin_name (by decide)) (fun _ _ _ _ _ => (dg_name (pg_name (i := 5) nd rfl (Or.inl rfl)))) (fun _ _ _ _ _ => dts_one (dt_cmp (op_eqW rfl (hu64 hr)) os_eq (nomark _) (de_ix rfl (de_var (pv 0)) (de_var (pv 5))) (de_int pe_int))) (fun _ _ _ _ _ => (de_var (pv 5))))
 (dss_cons (ds_if (dt_w (dw_or (dt_cmp (op_eqW rfl (hu64 hr)) os_eq (nomark _) (de_var (pv 4)) (de_lst da_nil')) (dw_or (dt_not (dt_chain op_ltW op_ltW os_lt os_lt (de_int pe_int) (de_op op_sub os_sub (de_ix rfl (de_var (pv 4)) (de_int pe_int)) (de_var (pv 1))) (de_int pe_int))) (dw_or1 (dt_cmp (op_neW rfl (hu64 hr)) os_ne (nomark _) (de_lc (own := [("_law_octet", 6)]) (g := (gName 6)) rfl nd (di_seq rfl (de_sl rfl (de_var (pv 0)) (do_some (de_var (pv 1))) (do_some (de_ix rfl (de_var (pv 4)) (de_int pe_int))))) (blkOk_by (own := [("_law_octet", 6)]) (N := N__law_key_at) (sc := defScope s__law_key_at) (by decide +kernel)) (tin_name (by decide)) (fun _ _ _ _ _ => (dg_name (pg_name (i := 6) nd rfl (Or.inl rfl)))) (fun _ _ _ _ _ => dts_one (dt_cmp (op_niW rfl (hu65 hr)) os_notIn rfl (de_var (pv 6)) (de_var (pv 2)))) (fun _ _ _ _ _ => (de_var (pv 6)))) (de_lst da_nil')))))) (dss_one (ds_ret (de_tup (da_cons' (de_non pe_non) (da_cons' (de_var (pv 1)) da_nil')))))
 dss_nil)
 (dss_one (ds_ret (de_tup (da_cons' (de_join rfl (de_str pe_str) (de_lc (own := [("_law_octet", 6)]) (g := (gName 6)) rfl nd (di_seq rfl (de_sl rfl (de_var (pv 0)) (do_some (de_var (pv 1))) (do_some (de_ix rfl (de_var (pv 4)) (de_int pe_int))))) (blkOk_by (own := [("_law_octet", 6)]) (N := N__law_key_at) (sc := defScope s__law_key_at) (by decide +kernel)) (tin_name (by decide)) (fun _ _ _ _ _ => (dg_name (pg_name (i := 6) nd rfl (Or.inl rfl)))) (fun _ _ _ _ _ => dts_nil) (fun _ _ _ _ _ => (de_ix rfl (de_var (pv 3)) (de_index rfl (hu65 hr) (de_var (pv 2)) (de_var (pv 6)) (fun h1 h2 => pe_bm PySem.F.plainAttrs_list PySem.F.slot_list_index PySem.F.type_list_index (mt_indexD (hu65 hr)) h1 h2)))))) (da_cons' (de_op (op_addW rfl) os_add (de_ix rfl (de_var (pv 4)) (de_int pe_int)) (de_int pe_int)) da_nil'))))))))⟩

abbrev s__law_text_at : Stmt := top 46
abbrev N__law_text_at : List Str := ["_law_octets", "_law_at", "_law_signs", "_law_codes", "_law_many", "_law_place", "_law_found", "_law_turn"]
theorem sc__law_text_at : FnScope N__law_text_at ["_law_octets", "_law_at"] (defScope s__law_text_at) := ⟨rfl, rfl, rfl, by decide +kernel, rfl, by decide +kernel, by decide +kernel⟩
def w__law_text_at : WS := (wSeq (wSet 2 (wC (.str " -./0123456789:ABCDEFGHIJKLMNOPQRSTUVWXYZ_abcdefghijklmnopqrstuvwxyz")))
 (wSeq (wSet 3 (wOp gAdd (wOp gAdd (wOp gAdd (wOp gAdd (wLst (waCons (wC (.int 32)) waNil)) (wRg2 .list (wC (.int 45)) (wC (.int 59)))) (wRg2 .list (wC (.int 65)) (wC (.int 91)))) (wLst (waCons (wC (.int 95)) waNil))) (wRg2 .list (wC (.int 97)) (wC (.int 123)))))
 (wSeq (wAsg (wCall pre__law_number_at post__law_number_at exc__law_number_at (wuCons (wVar 0) (wuCons (wVar 1) wuNil))) (wgTup 2 (wgCons (wgName 4) (wgCons (wgName 5) wgNil))))
 (wSeq (wIfS (wOr (wTest (wOp gIs (wVar 4) (wC .none))) (wTest (wOp gGt (wVar 4) (wC (.int 32))))) (wRet (wTup (waCons (wC .none) (waCons (wVar 1) waNil))))
 wNext)
 (wSeq (wSet 6 (wC (.str "")))
 (wSeq (wFor (wiRng1 (waCons (wVar 4) waNil)) (wgName 7)
 (wSeq (wIfS (wOr (wTest (wOp gGe (wVar 5) (wUn gLen (wVar 0)))) (wTest (wOp gNotIn (wOp gIx (wVar 0) (wVar 5)) (wVar 3)))) (wRet (wTup (waCons (wC .none) (waCons (wVar 5) waNil))))
 wNext)
 (wParN [6, 5] (wnD (wOp gAdd (wVar 6) (wOp gIx (wVar 2) (wIndex (wVar 3) (wOp gIx (wVar 0) (wVar 5))))) (wnD (wOp gAdd (wVar 5) (wC (.int 1))) wnNil)))))
 (wRet (wTup (waCons (wVar 6) (waCons (wVar 5) waNil))))))))))
def Go__law_text_at : Prop := ∀ as, pre__law_text_at as → w__law_text_at (startS 8 as) ⟨fun _ => post__law_text_at as .none, fun d _ => post__law_text_at as d, fun _ => False, fun _ => False, fun c x _ => exc__law_text_at as c x⟩
theorem ok__law_text_at (go : Go__law_text_at) (F : FnP K "_law_text_at" s__law_text_at f fd) (T : Fx mg) (C__law_number_at : Ca5 P w K mg base (L2.CX P w) 1 "_law_number_at" ["_law_octets", "_law_at"] (spU K (erL K) anyM pre__law_number_at post__law_number_at exc__law_number_at)) : FnG P w K mg base (L2.CX P w) 2 f fd ["_law_octets", "_law_at"] (spU K (erL K) anyM pre__law_text_at post__law_text_at exc__law_text_at) := by
  have nd := sc__law_text_at.nd
  refine fn_w (ws := w__law_text_at) F sc__law_text_at len__law_text_at (by decide) (fun cdv A out s H E hG hr => ?_) go
  exact ⟨_, (dss_cons (ds_set (i := 2) nd rfl (Or.inl rfl) (de_str pe_str))
 (dss_cons (ds_set (i := 3) nd rfl (Or.inl rfl) (de_op (op_addW rfl) os_add (de_op (op_addW rfl) os_add (de_op (op_addW rfl) os_add (de_op (op_addW rfl) os_add (de_lst (da_cons' (de_int pe_int) da_nil')) (de_listRg2 rfl rfl T.b_list T.b_range (de_int pe_int) (de_int pe_int))) (de_listRg2 rfl rfl T.b_list T.b_range (de_int pe_int) (de_int pe_int))) (de_lst (da_cons' (de_int pe_int) da_nil'))) (de_listRg2 rfl rfl T.b_list T.b_range (de_int pe_int) (de_int pe_int))))
 (dss_cons (ds_asg (de_call C__law_number_at hG (hr.mono (by decide)) (passW (takes_of rfl rfl rfl rfl)) (fun _ _ => trivial) (du_cons (de_var (pv 0)) (du_cons (de_var (pv 1)) du_nil))) (dg_tup rfl rfl (dgs_cons (dg_name (pg_name (i := 4) nd rfl (Or.inl rfl))) (dgs_cons (dg_name (pg_name (i := 5) nd rfl (Or.inl rfl))) dgs_nil))))
 (dss_cons (ds_if (dt_w (dw_or (dt_cmp op_isNo os_is (nomark _) (de_var (pv 4)) (de_non pe_non)) (dw_or1 (dt_cmp op_gtW os_gt (nomark _) (de_var (pv 4)) (de_int pe_int))))) (dss_one (ds_ret (de_tup (da_cons' (de_non pe_non) (da_cons' (de_var (pv 1)) da_nil')))))
 dss_nil)
 (dss_cons (ds_set (i := 6) nd rfl (Or.inl rfl) (de_str pe_str))
 (dss_cons (ds_for (passes_of rfl) rfl (di_rng1 rfl T.b_range (da_cons' (de_var (pv 4)) da_nil')) (dg_name (pg_name (i := 7) nd rfl (Or.inl rfl)))
 (dss_cons (ds_if (dt_w (dw_or (dt_cmp op_geW os_ge (nomark _) (de_var (pv 5)) (de_b1 (cl_lenK K rfl) us_len T.b_len (de_var (pv 0)))) (dw_or1 (dt_cmp (op_niW rfl (hu65 hr)) os_notIn rfl (de_ix rfl (de_var (pv 0)) (de_var (pv 5))) (de_var (pv 3)))))) (dss_one (ds_ret (de_tup (da_cons' (de_non pe_non) (da_cons' (de_var (pv 5)) da_nil')))))
 dss_nil)
 (dss_one (ds_parN (fun h => ps_par (i := 6) (j := 5) (by rfl) nd rfl rfl (by decide) rfl rfl h (by rfl)) (dn_d (de_op (op_addW rfl) os_add (de_var (pv 6)) (de_ix rfl (de_var (pv 2)) (de_index rfl (hu65 hr) (de_var (pv 3)) (de_ix rfl (de_var (pv 0)) (de_var (pv 5))) (fun h1 h2 => pe_bm PySem.F.plainAttrs_list PySem.F.slot_list_index PySem.F.type_list_index (mt_indexD (hu65 hr)) h1 h2)))) (dn_d (de_op (op_addW rfl) os_add (de_var (pv 5)) (de_int pe_int)) dn_nil))))))
 (dss_one (ds_ret (de_tup (da_cons' (de_var (pv 6)) (da_cons' (de_var (pv 5)) da_nil')))))))))))⟩

abbrev s__law_value_at : Stmt := top 47
abbrev N__law_value_at : List Str := ["_law_octets", "_law_at", "_law_tag", "_law_number", "_law_place", "_law_value_here", "_law_text_here"]
theorem sc__law_value_at : FnScope N__law_value_at ["_law_octets", "_law_at"] (defScope s__law_value_at) := ⟨rfl, rfl, rfl, by decide +kernel, rfl, by decide +kernel, by decide +kernel⟩
def w__law_value_at : WS := (wSeq (wSet 2 (wIf (wTest (wOp gLt (wVar 1) (wUn gLen (wVar 0)))) (wOp gIx (wVar 0) (wVar 1)) (wC (.int 3))))
 (wSeq (wIfS (wTest (wOp gEq (wVar 2) (wC (.int 0)))) (wRet (wTup (waCons (wLst (waCons (wC .none) waNil)) (waCons (wOp gAdd (wVar 1) (wC (.int 1))) waNil))))
 wNext)
 (wSeq (wIfS (wTest (wOp gGt (wVar 2) (wC (.int 2)))) (wRet (wTup (waCons (wC .none) (waCons (wVar 1) waNil))))
 wNext)
 (wSeq (wIfS (wTest (wOp gEq (wVar 2) (wC (.int 2)))) (wSeq (wAsg (wCall pre__law_text_at post__law_text_at exc__law_text_at (wuCons (wVar 0) (wuCons (wOp gAdd (wVar 1) (wC (.int 1))) wuNil))) (wgTup 2 (wgCons (wgName 6) (wgCons (wgName 4) wgNil))))
 (wRet (wTup (waCons (wIf (wTest (wOp gIs (wVar 6) (wC .none))) (wC .none) (wLst (waCons (wVar 6) waNil))) (waCons (wVar 4) waNil)))))
 wNext)
 (wSeq (wAsg (wCall pre__law_number_at post__law_number_at exc__law_number_at (wuCons (wVar 0) (wuCons (wOp gAdd (wVar 1) (wC (.int 1))) wuNil))) (wgTup 2 (wgCons (wgName 3) (wgCons (wgName 4) wgNil))))
 (wSeq (wIfS (wTest (wOp gIs (wVar 3) (wC .none))) (wRet (wTup (waCons (wC .none) (waCons (wOp gAdd (wVar 1) (wC (.int 1))) waNil))))
 wNext)
 (wSeq (wSet 5 (wIf (wTest (wOp gEq (wOp gMod (wUn gInt (wVar 3)) (wC (.int 2))) (wC (.int 0)))) (wOp gDiv (wVar 3) (wC (.int 2))) (wOp gSub (wC (.int 0)) (wOp gDiv (wOp gAdd (wVar 3) (wC (.int 1))) (wC (.int 2))))))
 (wRet (wIf (wTest (wChain gLe gLe (wUn gNeg (wC (.int 1000000000000000000))) (wVar 5) (wC (.int 1000000000000000000)))) (wTup (waCons (wLst (waCons (wVar 5) waNil)) (waCons (wVar 4) waNil))) (wTup (waCons (wC .none) (waCons (wOp gAdd (wVar 1) (wC (.int 1))) waNil))))))))))))
def Go__law_value_at : Prop := ∀ as, pre__law_value_at as → w__law_value_at (startS 7 as) ⟨fun _ => post__law_value_at as .none, fun d _ => post__law_value_at as d, fun _ => False, fun _ => False, fun c x _ => exc__law_value_at as c x⟩
theorem ok__law_value_at (go : Go__law_value_at) (F : FnP K "_law_value_at" s__law_value_at f fd) (T : Fx mg) (C__law_text_at : Ca5 P w K mg base (L2.CX P w) 2 "_law_text_at" ["_law_octets", "_law_at"] (spU K (erL K) anyM pre__law_text_at post__law_text_at exc__law_text_at)) (C__law_number_at : Ca5 P w K mg base (L2.CX P w) 1 "_law_number_at" ["_law_octets", "_law_at"] (spU K (erL K) anyM pre__law_number_at post__law_number_at exc__law_number_at)) : FnG P w K mg base (L2.CX P w) 3 f fd ["_law_octets", "_law_at"] (spU K (erL K) anyM pre__law_value_at post__law_value_at exc__law_value_at) := by
  have nd := sc__law_value_at.nd
  refine fn_w (ws := w__law_value_at) F sc__law_value_at len__law_value_at (by decide) (fun cdv A out s H E hG hr => ?_) go
  exact ⟨_, (dss_cons (ds_set (i := 2) nd rfl (Or.inl rfl) (de_ifx (dt_cmp op_ltW os_lt (nomark _) (de_var (pv 1)) (de_b1 (cl_lenK K rfl) us_len T.b_len (de_var (pv 0)))) (de_ix rfl (de_var (pv 0)) (de_var (pv 1))) (de_int pe_int)))
 (dss_cons (ds_if (dt_cmp (op_eqW rfl (hu64 hr)) os_eq (nomark _) (de_var (pv 2)) (de_int pe_int)) (dss_one (ds_ret (de_tup (da_cons' (de_lst (da_cons' (de_non pe_non) da_nil')) (da_cons' (de_op (op_addW rfl) os_add (de_var (pv 1)) (de_int pe_int)) da_nil')))))
 dss_nil)
 (dss_cons (ds_if (dt_cmp op_gtW os_gt (nomark _) (de_var (pv 2)) (de_int pe_int)) (dss_one (ds_ret (de_tup (da_cons' (de_non pe_non) (da_cons' (de_var (pv 1)) da_nil')))))
 dss_nil)
 (dss_cons (ds_if (dt_cmp (op_eqW rfl (hu64 hr)) os_eq (nomark _) (de_var (pv 2)) (de_int pe_int)) (dss_cons (ds_asg (de_call C__law_text_at hG (hr.mono (by decide)) (passW (takes_of rfl rfl rfl rfl)) (fun _ _ => trivial) (du_cons (de_var (pv 0)) (du_cons (de_op (op_addW rfl) os_add (de_var (pv 1)) (de_int pe_int)) du_nil))) (dg_tup rfl rfl (dgs_cons (dg_name (pg_name (i := 6) nd rfl (Or.inl rfl))) (dgs_cons (dg_name (pg_name (i := 4) nd rfl (Or.inl rfl))) dgs_nil))))
 (dss_one (ds_ret (de_tup (da_cons' (de_ifx (dt_cmp op_isNo os_is (nomark _) (de_var (pv 6)) (de_non pe_non)) (de_non pe_non) (de_lst (da_cons' (de_var (pv 6)) da_nil'))) (da_cons' (de_var (pv 4)) da_nil'))))))
 dss_nil)
 (dss_cons (ds_asg (de_call C__law_number_at hG (hr.mono (by decide)) (passW (takes_of rfl rfl rfl rfl)) (fun _ _ => trivial) (du_cons (de_var (pv 0)) (du_cons (de_op (op_addW rfl) os_add (de_var (pv 1)) (de_int pe_int)) du_nil))) (dg_tup rfl rfl (dgs_cons (dg_name (pg_name (i := 3) nd rfl (Or.inl rfl))) (dgs_cons (dg_name (pg_name (i := 4) nd rfl (Or.inl rfl))) dgs_nil))))
 (dss_cons (ds_if (dt_cmp op_isNo os_is (nomark _) (de_var (pv 3)) (de_non pe_non)) (dss_one (ds_ret (de_tup (da_cons' (de_non pe_non) (da_cons' (de_op (op_addW rfl) os_add (de_var (pv 1)) (de_int pe_int)) da_nil')))))
 dss_nil)
 (dss_cons (ds_set (i := 5) nd rfl (Or.inl rfl) (de_ifx (dt_cmp (op_eqW rfl (hu64 hr)) os_eq (nomark _) (de_op op_mod os_mod (de_t1 cl_int us_int T.b_int (de_var (pv 3))) (de_int pe_int)) (de_int pe_int)) (de_op op_fdivW os_div (de_var (pv 3)) (de_int pe_int)) (de_op op_sub os_sub (de_int pe_int) (de_op op_fdivW os_div (de_op (op_addW rfl) os_add (de_var (pv 3)) (de_int pe_int)) (de_int pe_int)))))
 (dss_one (ds_ret (de_ifx (dt_chain op_leW op_leW os_le os_le (de_un un_neg us_neg (de_int pe_int)) (de_var (pv 5)) (de_int pe_int)) (de_tup (da_cons' (de_lst (da_cons' (de_var (pv 5)) da_nil')) (da_cons' (de_var (pv 4)) da_nil'))) (de_tup (da_cons' (de_non pe_non) (da_cons' (de_op (op_addW rfl) os_add (de_var (pv 1)) (de_int pe_int)) da_nil')))))))))))))⟩

abbrev s__law_numbers_at : Stmt := top 49
abbrev N__law_numbers_at : List Str := ["_law_octets", "_law_at", "_law_many", "_law_place", "_law_found", "_law_turn", "_law_number", "_law_end"]
theorem sc__law_numbers_at : FnScope N__law_numbers_at ["_law_octets", "_law_at"] (defScope s__law_numbers_at) := ⟨rfl, rfl, rfl, by decide +kernel, rfl, by decide +kernel, by decide +kernel⟩
def w__law_numbers_at : WS := (wSeq (wAsg (wCall pre__law_number_at post__law_number_at exc__law_number_at (wuCons (wVar 0) (wuCons (wVar 1) wuNil))) (wgTup 2 (wgCons (wgName 2) (wgCons (wgName 3) wgNil))))
 (wSeq (wIfS (wTest (wOp gIs (wVar 2) (wC .none))) (wRet (wTup (waCons (wC .none) (waCons (wVar 1) waNil))))
 wNext)
 (wSeq (wNew 4)
 (wSeq (wFor (wiRng1 (waCons (wCB gMin2 (waCons (wVar 2) (waCons (wOp gAdd (wUn gLen (wVar 0)) (wC (.int 1))) waNil))) waNil)) (wgName 5)
 (wSeq (wAsg (wCall pre__law_number_at post__law_number_at exc__law_number_at (wuCons (wVar 0) (wuCons (wVar 3) wuNil))) (wgTup 2 (wgCons (wgName 6) (wgCons (wgName 7) wgNil))))
 (wSeq (wIfS (wTest (wOp gIs (wVar 6) (wC .none))) (wRet (wTup (waCons (wC .none) (waCons (wVar 3) waNil))))
 wNext)
 (wSeq (wApp 4 (wVar 6))
 (wSet 3 (wVar 7))))))
 (wRet (wTup (waCons (wUn gToT (wVar 4)) (waCons (wVar 3) waNil))))))))
def Go__law_numbers_at : Prop := ∀ as, pre__law_numbers_at as → w__law_numbers_at (startS 8 as) ⟨fun _ => post__law_numbers_at as .none, fun d _ => post__law_numbers_at as d, fun _ => False, fun _ => False, fun c x _ => exc__law_numbers_at as c x⟩
theorem ok__law_numbers_at (go : Go__law_numbers_at) (F : FnP K "_law_numbers_at" s__law_numbers_at f fd) (T : Fx mg) (C__law_number_at : Ca5 P w K mg base (L2.CX P w) 1 "_law_number_at" ["_law_octets", "_law_at"] (spU K (erL K) anyM pre__law_number_at post__law_number_at exc__law_number_at)) : FnG P w K mg base (L2.CX P w) 2 f fd ["_law_octets", "_law_at"] (spU K (erL K) anyM pre__law_numbers_at post__law_numbers_at exc__law_numbers_at) := by
  have nd := sc__law_numbers_at.nd
  refine fn_w (ws := w__law_numbers_at) F sc__law_numbers_at len__law_numbers_at (by decide) (fun cdv A out s H E hG hr => ?_) go
  exact ⟨_, (dss_cons (ds_asg (de_call C__law_number_at hG (hr.mono (by decide)) (passW (takes_of rfl rfl rfl rfl)) (fun _ _ => trivial) (du_cons (de_var (pv 0)) (du_cons (de_var (pv 1)) du_nil))) (dg_tup rfl rfl (dgs_cons (dg_name (pg_name (i := 2) nd rfl (Or.inl rfl))) (dgs_cons (dg_name (pg_name (i := 3) nd rfl (Or.inl rfl))) dgs_nil))))
 (dss_cons (ds_if (dt_cmp op_isNo os_is (nomark _) (de_var (pv 2)) (de_non pe_non)) (dss_one (ds_ret (de_tup (da_cons' (de_non pe_non) (da_cons' (de_var (pv 1)) da_nil')))))
 dss_nil)
 (dss_cons (ds_new (i := 4) nd rfl (Or.inl rfl))
 (dss_cons (ds_for (passes_of rfl) rfl (di_rng1 rfl T.b_range (da_cons' (de_bn (call_min2 rfl) cs_min2 T.b_min (da_cons' (de_var (pv 2)) (da_cons' (de_op (op_addW rfl) os_add (de_b1 (cl_lenK K rfl) us_len T.b_len (de_var (pv 0))) (de_int pe_int)) da_nil'))) da_nil')) (dg_name (pg_name (i := 5) nd rfl (Or.inl rfl)))
 (dss_cons (ds_asg (de_call C__law_number_at hG (hr.mono (by decide)) (passW (takes_of rfl rfl rfl rfl)) (fun _ _ => trivial) (du_cons (de_var (pv 0)) (du_cons (de_var (pv 3)) du_nil))) (dg_tup rfl rfl (dgs_cons (dg_name (pg_name (i := 6) nd rfl (Or.inl rfl))) (dgs_cons (dg_name (pg_name (i := 7) nd rfl (Or.inl rfl))) dgs_nil))))
 (dss_cons (ds_if (dt_cmp op_isNo os_is (nomark _) (de_var (pv 6)) (de_non pe_non)) (dss_one (ds_ret (de_tup (da_cons' (de_non pe_non) (da_cons' (de_var (pv 3)) da_nil')))))
 dss_nil)
 (dss_cons (ds_appD rfl (fun h => ps_expr (pe_bm PySem.F.plainAttrs_list PySem.F.slot_list_append PySem.F.type_list_append mt_append (pv 4) h)) (de_var (pv 6)))
 (dss_one (ds_set (i := 3) nd rfl (Or.inl rfl) (de_var (pv 7))))))))
 (dss_one (ds_ret (de_tup (da_cons' (de_t1 (cl_tupK K rfl) us_tup T.b_tuple (de_var (pv 4))) (da_cons' (de_var (pv 3)) da_nil')))))))))⟩

abbrev s__law_range_at : Stmt := top 50
abbrev N__law_range_at : List Str := ["_law_octets", "_law_at", "_law_found", "_law_place", "_law_turn", "_law_tag", "_law_key", "_law_end"]
theorem sc__law_range_at : FnScope N__law_range_at ["_law_octets", "_law_at"] (defScope s__law_range_at) := ⟨rfl, rfl, rfl, by decide +kernel, rfl, by decide +kernel, by decide +kernel⟩
def w__law_range_at : WS := (wSeq (wParN [2, 3] (wnNew waNil (wnD (wVar 1) wnNil)))
 (wSeq (wFor (wiRng1 (waCons (wC (.int 2)) waNil)) (wgName 4)
 (wSeq (wSet 5 (wIf (wTest (wOp gLt (wVar 3) (wUn gLen (wVar 0)))) (wOp gIx (wVar 0) (wVar 3)) (wC (.int 2))))
 (wSeq (wIfS (wTest (wOp gGt (wVar 5) (wC (.int 1)))) (wRet (wTup (waCons (wC .none) (waCons (wVar 3) waNil))))
 wNext)
 (wIfS (wTest (wOp gEq (wVar 5) (wC (.int 0)))) (wSeq (wApp 2 (wC .none))
 (wSet 3 (wOp gAdd (wVar 3) (wC (.int 1)))))
 (wSeq (wAsg (wCall pre__law_key_at post__law_key_at exc__law_key_at (wuCons (wVar 0) (wuCons (wOp gAdd (wVar 3) (wC (.int 1))) wuNil))) (wgTup 2 (wgCons (wgName 6) (wgCons (wgName 7) wgNil))))
 (wSeq (wIfS (wTest (wOp gIs (wVar 6) (wC .none))) (wRet (wTup (waCons (wC .none) (waCons (wOp gAdd (wVar 3) (wC (.int 1))) waNil))))
 wNext)
 (wSeq (wApp 2 (wVar 6))
 (wSet 3 (wVar 7)))))))))
 (wRet (wTup (waCons (wUn gToT (wVar 2)) (waCons (wVar 3) waNil))))))
def Go__law_range_at : Prop := ∀ as, pre__law_range_at as → w__law_range_at (startS 8 as) ⟨fun _ => post__law_range_at as .none, fun d _ => post__law_range_at as d, fun _ => False, fun _ => False, fun c x _ => exc__law_range_at as c x⟩
theorem ok__law_range_at (go : Go__law_range_at) (F : FnP K "_law_range_at" s__law_range_at f fd) (T : Fx mg) (C__law_key_at : Ca5 P w K mg base (L2.CX P w) 1 "_law_key_at" ["_law_octets", "_law_at"] (spU K (erL K) anyM pre__law_key_at post__law_key_at exc__law_key_at)) : FnG P w K mg base (L2.CX P w) 2 f fd ["_law_octets", "_law_at"] (spU K (erL K) anyM pre__law_range_at post__law_range_at exc__law_range_at) := by
  have nd := sc__law_range_at.nd
  refine fn_w (ws := w__law_range_at) F sc__law_range_at len__law_range_at (by decide) (fun cdv A out s H E hG hr => ?_) go
  exact ⟨_, (dss_cons (ds_parN (fun h => ps_par (i := 2) (j := 3) (by rfl) nd rfl rfl (by decide) rfl rfl h (by rfl)) (dn_new da_nil' (dn_d (de_var (pv 1)) dn_nil)))
 (dss_cons (ds_for (passes_of rfl) rfl (di_rng1 rfl T.b_range (da_cons' (de_int pe_int) da_nil')) (dg_name (pg_name (i := 4) nd rfl (Or.inl rfl)))
 (dss_cons (ds_set (i := 5) nd rfl (Or.inl rfl) (de_ifx (dt_cmp op_ltW os_lt (nomark _) (de_var (pv 3)) (de_b1 (cl_lenK K rfl) us_len T.b_len (de_var (pv 0)))) (de_ix rfl (de_var (pv 0)) (de_var (pv 3))) (de_int pe_int)))
 (dss_cons (ds_if (dt_cmp op_gtW os_gt (nomark _) (de_var (pv 5)) (de_int pe_int)) (dss_one (ds_ret (de_tup (da_cons' (de_non pe_non) (da_cons' (de_var (pv 3)) da_nil')))))
 dss_nil)
 (dss_one (ds_if (dt_cmp (op_eqW rfl (hu64 hr)) os_eq (nomark _) (de_var (pv 5)) (de_int pe_int)) (dss_cons (ds_appD rfl (fun h => ps_expr (pe_bm PySem.F.plainAttrs_list PySem.F.slot_list_append PySem.F.type_list_append mt_append (pv 2) h)) (de_non pe_non))
 (dss_one (ds_set (i := 3) nd rfl (Or.inl rfl) (de_op (op_addW rfl) os_add (de_var (pv 3)) (de_int pe_int)))))
 (dss_cons (ds_asg (de_call C__law_key_at hG (hr.mono (by decide)) (passW (takes_of rfl rfl rfl rfl)) (fun _ _ => trivial) (du_cons (de_var (pv 0)) (du_cons (de_op (op_addW rfl) os_add (de_var (pv 3)) (de_int pe_int)) du_nil))) (dg_tup rfl rfl (dgs_cons (dg_name (pg_name (i := 6) nd rfl (Or.inl rfl))) (dgs_cons (dg_name (pg_name (i := 7) nd rfl (Or.inl rfl))) dgs_nil))))
 (dss_cons (ds_if (dt_cmp op_isNo os_is (nomark _) (de_var (pv 6)) (de_non pe_non)) (dss_one (ds_ret (de_tup (da_cons' (de_non pe_non) (da_cons' (de_op (op_addW rfl) os_add (de_var (pv 3)) (de_int pe_int)) da_nil')))))
 dss_nil)
 (dss_cons (ds_appD rfl (fun h => ps_expr (pe_bm PySem.F.plainAttrs_list PySem.F.slot_list_append PySem.F.type_list_append mt_append (pv 2) h)) (de_var (pv 6)))
 (dss_one (ds_set (i := 3) nd rfl (Or.inl rfl) (de_var (pv 7))))))))))))
 (dss_one (ds_ret (de_tup (da_cons' (de_t1 (cl_tupK K rfl) us_tup T.b_tuple (de_var (pv 2))) (da_cons' (de_var (pv 3)) da_nil')))))))⟩

abbrev s__law_pairs_at : Stmt := top 48
abbrev N__law_pairs_at : List Str := ["_law_octets", "_law_at", "_law_whole", "_law_many", "_law_place", "_law_found", "_law_turn", "_law_key", "_law_behind", "_law_value_here", "_law_end"]
theorem sc__law_pairs_at : FnScope N__law_pairs_at ["_law_octets", "_law_at", "_law_whole"] (defScope s__law_pairs_at) := ⟨rfl, rfl, rfl, by decide +kernel, rfl, by decide +kernel, by decide +kernel⟩
def w__law_pairs_at : WS := (wSeq (wAsg (wCall pre__law_number_at post__law_number_at exc__law_number_at (wuCons (wVar 0) (wuCons (wVar 1) wuNil))) (wgTup 2 (wgCons (wgName 3) (wgCons (wgName 4) wgNil))))
 (wSeq (wIfS (wTest (wOp gIs (wVar 3) (wC .none))) (wRet (wTup (waCons (wC .none) (waCons (wVar 1) waNil))))
 wNext)
 (wSeq (wNew 5)
 (wSeq (wFor (wiRng1 (waCons (wCB gMin2 (waCons (wVar 3) (waCons (wOp gAdd (wUn gLen (wVar 0)) (wC (.int 1))) waNil))) waNil)) (wgName 6)
 (wSeq (wAsg (wCall pre__law_key_at post__law_key_at exc__law_key_at (wuCons (wVar 0) (wuCons (wVar 4) wuNil))) (wgTup 2 (wgCons (wgName 7) (wgCons (wgName 8) wgNil))))
 (wSeq (wIfS (wOr (wTest (wOp gIs (wVar 7) (wC .none))) (wAnd (wTest (wOp gNe (wVar 5) (wLst waNil))) (wNot (wTest (wOp gLt (wOp gIx (wOp gIx (wVar 5) (wUn gNeg (wC (.int 1)))) (wC (.int 0))) (wVar 7)))))) (wRet (wTup (waCons (wC .none) (waCons (wVar 4) waNil))))
 wNext)
 (wSeq (wAsg (wCall pre__law_value_at post__law_value_at exc__law_value_at (wuCons (wVar 0) (wuCons (wVar 8) wuNil))) (wgTup 2 (wgCons (wgName 9) (wgCons (wgName 10) wgNil))))
 (wSeq (wIfS (wOr (wTest (wOp gIs (wVar 9) (wC .none))) (wAnd (wTr (wVar 2)) (wTest (wOp gIs (wOp gIx (wVar 9) (wC (.int 0))) (wC .none))))) (wRet (wTup (waCons (wC .none) (waCons (wIf (wTest (wOp gIsNot (wVar 9) (wC .none))) (wVar 8) (wVar 10)) waNil))))
 wNext)
 (wSeq (wApp 5 (wTup (waCons (wVar 7) (waCons (wOp gIx (wVar 9) (wC (.int 0))) waNil))))
 (wSet 4 (wVar 10))))))))
 (wRet (wTup (waCons (wUn gToT (wVar 5)) (waCons (wVar 4) waNil))))))))
def Go__law_pairs_at : Prop := ∀ as, pre__law_pairs_at as → w__law_pairs_at (startS 11 as) ⟨fun _ => post__law_pairs_at as .none, fun d _ => post__law_pairs_at as d, fun _ => False, fun _ => False, fun c x _ => exc__law_pairs_at as c x⟩
theorem ok__law_pairs_at (go : Go__law_pairs_at) (F : FnP K "_law_pairs_at" s__law_pairs_at f fd) (T : Fx mg) (C__law_number_at : Ca5 P w K mg base (L2.CX P w) 1 "_law_number_at" ["_law_octets", "_law_at"] (spU K (erL K) anyM pre__law_number_at post__law_number_at exc__law_number_at)) (C__law_key_at : Ca5 P w K mg base (L2.CX P w) 1 "_law_key_at" ["_law_octets", "_law_at"] (spU K (erL K) anyM pre__law_key_at post__law_key_at exc__law_key_at)) (C__law_value_at : Ca5 P w K mg base (L2.CX P w) 3 "_law_value_at" ["_law_octets", "_law_at"] (spU K (erL K) anyM pre__law_value_at post__law_value_at exc__law_value_at)) : FnG P w K mg base (L2.CX P w) 4 f fd ["_law_octets", "_law_at", "_law_whole"] (spU K (erL K) anyM pre__law_pairs_at post__law_pairs_at exc__law_pairs_at) := by
  have nd := sc__law_pairs_at.nd
  refine fn_w (ws := w__law_pairs_at) F sc__law_pairs_at len__law_pairs_at (by decide) (fun cdv A out s H E hG hr => ?_) go
  exact ⟨_, (dss_cons (ds_asg (de_call C__law_number_at hG (hr.mono (by decide)) (passW (takes_of rfl rfl rfl rfl)) (fun _ _ => trivial) (du_cons (de_var (pv 0)) (du_cons (de_var (pv 1)) du_nil))) (dg_tup rfl rfl (dgs_cons (dg_name (pg_name (i := 3) nd rfl (Or.inl rfl))) (dgs_cons (dg_name (pg_name (i := 4) nd rfl (Or.inl rfl))) dgs_nil))))
 (dss_cons (ds_if (dt_cmp op_isNo os_is (nomark _) (de_var (pv 3)) (de_non pe_non)) (dss_one (ds_ret (de_tup (da_cons' (de_non pe_non) (da_cons' (de_var (pv 1)) da_nil')))))
 dss_nil)
 (dss_cons (ds_new (i := 5) nd rfl (Or.inl rfl))
 (dss_cons (ds_for (passes_of rfl) rfl (di_rng1 rfl T.b_range (da_cons' (de_bn (call_min2 rfl) cs_min2 T.b_min (da_cons' (de_var (pv 3)) (da_cons' (de_op (op_addW rfl) os_add (de_b1 (cl_lenK K rfl) us_len T.b_len (de_var (pv 0))) (de_int pe_int)) da_nil'))) da_nil')) (dg_name (pg_name (i := 6) nd rfl (Or.inl rfl)))
 (dss_cons (ds_asg (de_call C__law_key_at hG (hr.mono (by decide)) (passW (takes_of rfl rfl rfl rfl)) (fun _ _ => trivial) (du_cons (de_var (pv 0)) (du_cons (de_var (pv 4)) du_nil))) (dg_tup rfl rfl (dgs_cons (dg_name (pg_name (i := 7) nd rfl (Or.inl rfl))) (dgs_cons (dg_name (pg_name (i := 8) nd rfl (Or.inl rfl))) dgs_nil))))
 (dss_cons (ds_if (dt_w (dw_or (dt_cmp op_isNo os_is (nomark _) (de_var (pv 7)) (de_non pe_non)) (dw_or1 (dt_w (dw_and (dt_cmp (op_neW rfl (hu64 hr)) os_ne (nomark _) (de_var (pv 5)) (de_lst da_nil')) (dw_and1 (dt_not (dt_cmp op_ltW os_lt (nomark _) (de_ix rfl (de_ix rfl (de_var (pv 5)) (de_un un_neg us_neg (de_int pe_int))) (de_int pe_int)) (de_var (pv 7)))))))))) (dss_one (ds_ret (de_tup (da_cons' (de_non pe_non) (da_cons' (de_var (pv 4)) da_nil')))))
 dss_nil)
 (dss_cons (ds_asg (de_call C__law_value_at hG (hr.mono (by decide)) (passW (takes_of rfl rfl rfl rfl)) (fun _ _ => trivial) (du_cons (de_var (pv 0)) (du_cons (de_var (pv 8)) du_nil))) (dg_tup rfl rfl (dgs_cons (dg_name (pg_name (i := 9) nd rfl (Or.inl rfl))) (dgs_cons (dg_name (pg_name (i := 10) nd rfl (Or.inl rfl))) dgs_nil))))
 (dss_cons (ds_if (dt_w (dw_or (dt_cmp op_isNo os_is (nomark _) (de_var (pv 9)) (de_non pe_non)) (dw_or1 (dt_w (dw_and (dt_tr rfl (de_var (pv 2))) (dw_and1 (dt_cmp op_isNo os_is (nomark _) (de_ix rfl (de_var (pv 9)) (de_int pe_int)) (de_non pe_non)))))))) (dss_one (ds_ret (de_tup (da_cons' (de_non pe_non) (da_cons' (de_ifx (dt_cmp op_notNo os_isNot (nomark _) (de_var (pv 9)) (de_non pe_non)) (de_var (pv 8)) (de_var (pv 10))) da_nil')))))
 dss_nil)
 (dss_cons (ds_appD rfl (fun h => ps_expr (pe_bm PySem.F.plainAttrs_list PySem.F.slot_list_append PySem.F.type_list_append mt_append (pv 5) h)) (de_tup (da_cons' (de_var (pv 7)) (da_cons' (de_ix rfl (de_var (pv 9)) (de_int pe_int)) da_nil'))))
 (dss_one (ds_set (i := 4) nd rfl (Or.inl rfl) (de_var (pv 10))))))))))
 (dss_one (ds_ret (de_tup (da_cons' (de_t1 (cl_tupK K rfl) us_tup T.b_tuple (de_var (pv 5))) (da_cons' (de_var (pv 4)) da_nil')))))))))⟩

end
theorem go__law_number_at : Go__law_number_at := by
  rintro as ⟨xs, a, rfl, ho, hl, ha⟩
  unfold w__law_number_at rdArgs
  walk_at "go"
  have hl20 : xs.length < 1048576 := hl
  refine ⟨by decide, fun i s => ∃ (tot : Int) (v5 v6 : Option SV), s = [some (.d (.tuple (oD xs))), some (.d (.int a)), some (.d (.int tot)), some (.d (.int ((a + i : Nat) : Int))), some (.d (.int ((128 ^ i : Nat) : Int))), v5, v6] ∧ a + i ≤ xs.length ∧ goN xs a (9 - i) (a + i) tot ((128 ^ i : Nat) : Int) = getN xs a, ⟨0, none, none, rfl, ha, rfl⟩, ?_, ?_⟩
  · rintro i d s2 hd ⟨tot, v5, v6, rfl, hi, hg⟩
    obtain ⟨rfl, hk⟩ := rngD_at hd
    have hk2 : i < 9 := by omega
    have ei : 9 - i = (9 - (i + 1)) + 1 := by omega
    rw [ei] at hg
    unfold goN at hg
    have pw : (128 ^ i : Nat) ≤ 128 ^ 8 := Nat.pow_le_pow_right (by decide) (by omega)
    have ew : 128 * ((128 ^ i : Nat) : Int) = ((128 ^ (i + 1) : Nat) : Int) := by rw [Nat.pow_succ]; omega
    walk_at "dw"
    split
    · rename_i c
      rw [List.getElem?_eq_none (by omega)] at hg
      exact ⟨by decide, xs, a, rfl, by unfold rdNum; rw [← hg]; rfl⟩
    · rename_i c
      have e := List.getElem?_eq_getElem (l := xs) (i := a + i) (by omega)
      generalize xs[a + i]'(by omega) = o at e
      have oo := ho o (List.mem_of_getElem? e)
      rw [e] at hg
      have hg : (if o = 0 ∧ a < a + i then none else if o < 128 then some (tot + o % 128 * ((128 ^ i : Nat) : Int), a + i + 1) else goN xs a (9 - (i + 1)) (a + i + 1) (tot + o % 128 * ((128 ^ i : Nat) : Int)) (((128 ^ i : Nat) : Int) * 128)) = getN xs a := hg
      rw [Int.mul_comm _ 128, ew] at hg
      generalize hw : (128 ^ i : Nat) = w at *
      walk_at "ds"
      refine ⟨.int o, L2.atI_nat (oD_get e), ?_⟩
      walk_at "ds"
      split
      · rename_i c1
        have em : o % 128 = o - 128 := by omega
        rw [if_neg (by omega), if_neg (by omega), em, Int.mul_comm] at hg
        refine ⟨cmul_small (by omega) (by omega), ?_⟩
        walk_at "ds"
        rw [if_neg (by omega)]
        walk_at "ds"
        refine ⟨cmul_small (by decide) (by omega), ?_⟩
        exact ⟨_, _, _, by rw [ew]; rfl, by omega, hg⟩
      · rename_i c1
        have em : o % 128 = o := by omega
        rw [em, Int.mul_comm o] at hg
        refine ⟨cmul_small (by omega) (by omega), ?_⟩
        walk_at "ds"
        rw [if_pos (by omega)]
        split
        · rename_i c2
          split
          · rename_i c3
            rw [if_pos ⟨c2, by omega⟩] at hg
            exact ⟨by decide, xs, a, rfl, by unfold rdNum; rw [← hg]; rfl⟩
          · rename_i c3
            rw [if_neg (by omega), if_pos (by omega)] at hg
            exact ⟨by decide, xs, a, rfl, by unfold rdNum; rw [← hg]; rfl⟩
        · rename_i c2
          rw [if_neg (by omega), if_pos (by omega)] at hg
          exact ⟨by decide, xs, a, rfl, by unfold rdNum; rw [← hg]; rfl⟩
  · rintro s2 ⟨tot, v5, v6, rfl, hi, hg⟩
    walk_at "ds"
    have e9 : (rngD 0 9).length = 9 := rfl
    rw [e9] at hg
    exact ⟨by decide, xs, a, rfl, by unfold rdNum; rw [← hg]; rfl⟩
theorem go__law_numbers_at : Go__law_numbers_at := by
  rintro as ⟨xs, a, rfl, ho, hl, ha⟩
  unfold w__law_numbers_at rdArgs
  walk_at "go"
  have hz := sizeLine_eq
  have hp := p9
  have hl20 : xs.length < 1048576 := hl
  refine ⟨⟨xs, a, rfl, ho, hl, ha⟩, ?_, fun _ _ z => z⟩
  rintro d ⟨xs', a', e, rfl⟩
  obtain ⟨rfl, rfl⟩ := rd_inj e
  unfold rdNum
  cases hg : getN xs a with
  | none =>
    unfold ownD pairD
    walk_at "dw"
    walk_at "ds"
    exact ⟨by decide, xs, a, rfl, by unfold rdNums; rw [hg]; rfl⟩
  | some p =>
    obtain ⟨v, q⟩ := p
    obtain ⟨m, rfl, h1, h2, h3, hm⟩ := getN_some ho hg
    unfold ownD pairD
    walk_at "dw"
    walk_at "ds"
    generalize hn : (if (xs.length : Int) + 1 < (m : Nat) then (xs.length : Int) + 1 else (m : Nat)) = n
    have n0 : 0 ≤ n ∧ n ≤ xs.length + 1 ∧ n ≤ m ∧ (n < m → n = xs.length + 1) := by split at hn <;> omega
    refine ⟨⟨by omega, by omega⟩, fun i s => ∃ (p : Nat) (acc : List Int) (v5 v6 v7 : Option SV), s = [some (.d (.tuple (oD xs))), some (.d (.int a)), some (.d (.int (m : Nat))), some (.d (.int (p : Nat))), some (.own (oD acc)), v5, v6, v7] ∧ p ≤ xs.length ∧ acc.length ≤ p ∧ i ≤ p ∧ goNums xs (m - i) p acc = rdNums xs a,
      ⟨q, [], none, none, none, rfl, h2, Nat.zero_le _, Nat.zero_le _, by unfold rdNums; rw [hg]; rfl⟩, ?_, ?_⟩
    · rintro i d s2 hd ⟨p, acc, v5, v6, v7, rfl, hp1, hp2, hp3, hr⟩
      obtain ⟨rfl, hk⟩ := rngD_at hd
      have ei : m - i = (m - (i + 1)) + 1 := by omega
      rw [ei] at hr
      unfold goNums at hr
      walk_at "dw"
      refine ⟨⟨xs, p, rfl, ho, hl, hp1⟩, ?_, fun _ _ z => z⟩
      rintro d ⟨xs', a', e, rfl⟩
      obtain ⟨rfl, rfl⟩ := rd_inj e
      unfold rdNum
      cases hg' : getN xs p with
      | none =>
        rw [hg'] at hr
        unfold ownD pairD
        walk_at "dw"
        walk_at "ds"
        exact ⟨by decide, xs, a, rfl, by rw [← hr]; rfl⟩
      | some p' =>
        obtain ⟨v, q'⟩ := p'
        obtain ⟨m', rfl, g1, g2, g3, gm⟩ := getN_some ho hg'
        rw [hg'] at hr
        unfold ownD pairD
        walk_at "dw"
        walk_at "ds"
        exact ⟨⟨_, rfl⟩, by omega, q', acc ++ [((m' : Nat) : Int)], _, _, _, by rw [← oD_app]; rfl, g2, by rw [List.length_append, List.length_singleton]; omega, by omega, hr⟩
    · rintro s2 ⟨p, acc, v5, v6, v7, rfl, hp1, hp2, hp3, hr⟩
      walk_at "ds"
      rw [rngD_len] at hp3 hr
      have e0 : m - (n - 0).toNat = 0 := by omega
      rw [e0] at hr
      exact ⟨by decide, xs, a, rfl, by rw [← hr]; rfl⟩
def goEnds (xs : List Int) : Nat → Nat → List PyData → Rd
  | 0, p, acc => .ok (.tuple acc) p
  | k + 1, p, acc => match rdEnd xs p with
    | .bad q => .bad q
    | .ok v q => goEnds xs k q (acc ++ [v])
theorem rdRange_go (xs : List Int) (a : Nat) : rdRange xs a = goEnds xs 2 a [] := by
  unfold rdRange goEnds
  cases rdEnd xs a with
  | bad p => rfl
  | ok v q =>
    show _ = goEnds xs 1 q [v]
    unfold goEnds
    dsimp only
    cases rdEnd xs q with
    | bad p => rfl
    | ok w r => rfl
theorem rdKey_bad {xs : List Int} {a p : Nat} (h : rdKey xs a = .bad p) : p = a := by
  unfold rdKey at h
  cases e : keyAt xs a with
  | none => rw [e] at h; cases h; rfl
  | some z => rw [e] at h; cases h
theorem rdKey_str {xs : List Int} {a q : Nat} {v : PyData} (h : rdKey xs a = .ok v q) : ∃ z, v = .str z ∧ keyAt xs a = some (z, q) := by
  unfold rdKey at h
  cases e : keyAt xs a with
  | none => rw [e] at h; cases h
  | some z => rw [e] at h; cases h; exact ⟨_, rfl, rfl⟩
theorem go__law_range_at : Go__law_range_at := by
  rintro as ⟨xs, a, rfl, ho, hl, ha⟩
  unfold w__law_range_at rdArgs
  walk_at "go"
  have hz := sizeLine_eq
  have hl20 : xs.length < 1048576 := hl
  refine ⟨by decide, ?_⟩
  walk_at "ds"
  refine ⟨by decide, fun i s => ∃ (p : Nat) (acc : List PyData) (v4 v5 v6 v7 : Option SV), s = [some (.d (.tuple (oD xs))), some (.d (.int a)), some (.own acc), some (.d (.int (p : Nat))), v4, v5, v6, v7] ∧ p ≤ xs.length ∧ acc.length = i ∧ goEnds xs (2 - i) p acc = rdRange xs a,
    ⟨a, [], none, none, none, none, rfl, ha, rfl, (rdRange_go xs a).symm⟩, ?_, ?_⟩
  · rintro i d s2 hd ⟨p, acc, v4, v5, v6, v7, rfl, hp, hi, hr⟩
    obtain ⟨rfl, hk⟩ := rngD_at hd
    have ei : 2 - i = (2 - (i + 1)) + 1 := by omega
    have ep : ((p : Int) + 1) = ((p + 1 : Nat) : Int) := by omega
    rw [ei] at hr
    unfold goEnds rdEnd at hr
    walk_at "dw"
    split
    · rename_i c
      have e := List.getElem?_eq_getElem (l := xs) (i := p) (by omega)
      generalize xs[p]'(by omega) = o at e
      rw [e] at hr
      refine ⟨.int o, L2.atI_nat (oD_get e), ?_⟩
      walk_at "ds"
      split
      · rename_i c1
        dsimp only at hr
        rw [if_pos c1] at hr
        exact ⟨by decide, xs, a, rfl, by rw [← hr]; rfl⟩
      · rename_i c1
        dsimp only at hr
        rw [if_neg c1] at hr
        walk_at "ds"
        split
        · rename_i c2
          rw [if_pos c2] at hr
          refine ⟨⟨_, rfl⟩, by omega, ?_⟩
          walk_at "ds"
          exact ⟨p + 1, _, _, _, _, _, rfl, by omega, by rw [List.length_append, List.length_singleton]; omega, hr⟩
        · rename_i c2
          rw [if_neg c2] at hr
          rw [ep]
          refine ⟨⟨xs, p + 1, rfl, ho, hl, by omega⟩, ?_, fun _ _ z => z⟩
          rintro d ⟨xs', a', e, rfl⟩
          obtain ⟨rfl, rfl⟩ := rd_inj e
          cases hkr : rdKey xs (p + 1) with
          | bad r =>
            cases rdKey_bad hkr
            rw [hkr] at hr
            unfold ownD pairD
            walk_at "dw"
            walk_at "ds"
            exact ⟨by decide, xs, a, rfl, by rw [← hr]; unfold ownD pairD; rw [ep]⟩
          | ok v r =>
            obtain ⟨z, rfl, hz'⟩ := rdKey_str hkr
            have hle := rdKey_le hkr
            rw [hkr] at hr
            unfold ownD pairD
            walk_at "dw"
            walk_at "ds"
            exact ⟨⟨_, rfl⟩, by omega, r, _, _, _, _, _, rfl, hle.2, by rw [List.length_append, List.length_singleton]; omega, hr⟩
    · rename_i c
      rw [List.getElem?_eq_none (by omega)] at hr
      walk_at "ds"
      rw [if_pos (by decide)]
      exact ⟨by decide, xs, a, rfl, by rw [← hr]; rfl⟩
  · rintro s2 ⟨p, acc, v4, v5, v6, v7, rfl, hp, hi, hr⟩
    have e2 : (rngD 0 2).length = 2 := rfl
    rw [e2] at hr
    walk_at "ds"
    exact ⟨by decide, xs, a, rfl, by rw [← hr]; rfl⟩
end K04

namespace K04
open PySem PySem.Spec
open PyProof.Rows L2 DL DW
local macro_rules | `(tactic| walk_at "dw0") => `(tactic| simp only [DW.startS, DW.AV.sv, List.map_cons, List.map_nil, List.length_cons, List.length_nil, List.replicate_succ, List.replicate_zero, List.cons_append, List.nil_append, Nat.reduceAdd, Nat.reduceSub])
local macro_rules | `(tactic| walk_at "dw") => `(tactic| simp only [DW.wSeq, DW.wNext, DW.wIfS, DW.wRet, DW.wRetN, DW.wBreak, DW.wCont, DW.wSet, DW.wAsg, DW.wNew, DW.wNewL, DW.wNewC, DW.wExpr, DW.wApp, DW.wExt, DW.wExtA, DW.wPop, DW.wAug, DW.wRaise, DW.wVar, DW.wC, DW.wRaw, DW.wOp, DW.wUn, DW.waNil, DW.waCons, DW.wCB, DW.wTup, DW.wLst, DW.wTest, DW.wYes, DW.wAnd, DW.wOr, DW.wNot, DW.wTr, DW.gTr, DW.wAndV, DW.wOrV, DW.wNotV, DW.wIf, DW.rdq, DW.frz, DW.asg, DW.avf, DW.wuNil, DW.wuCons, DW.wCall, DW.wCallK, DW.wgName, DW.wgTup, DW.wgCons, DW.wgNil,
  DW.wParN, DW.wnNil, DW.wnD, DW.wnNew, DW.asgN, DW.gAdd, DW.gSub, DW.gMul, DW.gMod, DW.gDiv, DW.gPow, DW.gLt, DW.gLe, DW.gGt, DW.gGe, DW.gEq, DW.gNe, DW.gInB, DW.gIs, DW.gIsNot, DW.gIx, DW.gNeg, DW.gLen, DW.gToT, DW.gToL, DW.gInt, DW.gAbs, DW.gRepr, DW.gMin2, DW.gMax2, DW.gOrd, DW.gStr, DW.gAddI, DW.gSubI, DW.gIsB, DW.gIsntB, DW.gRep, DW.wJoin, DW.gJoin, DW.wIndex, DW.gIndex, DW.wRg1, DW.wRg2, DW.LT.mk, DW.wiSeq, DW.wiRng1, DW.wiRng2, DW.wiRngB, DW.wiEnumX, DW.wiEnum, DW.wipeS, DL.truth, DL.isNo, DW.wIsi, DW.wChain, DW.wSl, DW.gSl, DW.gRev, DW.woNone, DW.woSome, DW.wFor_eq, DW.wLc_eq, DW.wNewLc_eq, DW.one_ord, DW.one_len, DL.oD_len,
  DW.eqv_int, DW.sh_intT, true_and, List.getElem?_cons_zero, List.getElem?_cons_succ, List.set_cons_zero, List.set_cons_succ, List.length_cons, List.length_nil, if_true, if_false, decide_eq_true_eq, Bool.false_eq_true, reduceIte, List.cons_append, List.nil_append, Nat.reduceAdd, Bool.not_true, Bool.not_false])
local macro_rules | `(tactic| walk_at "ds") => `(tactic| repeat ((with_reducible refine DW.Kt_i ?_); (walk_at "dw")))
local macro_rules | `(tactic| walk_at "go") => `(tactic| ((walk_at "dw0"); (walk_at "dw"); (walk_at "ds")))
theorem tw (l : List Int) : (∀ k, k < (l.takeWhile fun o => decide (o ≠ 0)).length → ∃ o, l[k]? = some o ∧ o ≠ 0) ∧ ((l.takeWhile fun o => decide (o ≠ 0)).length < l.length → l[(l.takeWhile fun o => decide (o ≠ 0)).length]? = some 0) ∧ (l.takeWhile fun o => decide (o ≠ 0)) = l.take (l.takeWhile fun o => decide (o ≠ 0)).length := by
  induction l with
  | nil => exact ⟨fun k h => absurd h (Nat.not_lt_zero _), fun h => absurd h (Nat.not_lt_zero _), rfl⟩
  | cons o l ih =>
    obtain ⟨h1, h2, h3⟩ := ih
    by_cases c : o = 0
    · rw [List.takeWhile_cons_of_neg (by simp [c])]
      exact ⟨fun k h => by simp at h, fun _ => by rw [c]; rfl, rfl⟩
    · rw [List.takeWhile_cons_of_pos (by simpa using c)]
      refine ⟨fun k h => ?_, fun h => ?_, ?_⟩
      · cases k with
        | zero => exact ⟨o, rfl, c⟩
        | succ k => exact h1 k (by simpa using h)
      · rw [List.length_cons, List.getElem?_cons_succ]
        exact h2 (by simpa using h)
      · rw [List.length_cons, List.take_succ_cons, ← h3]
theorem word_ne {xs : List Int} {a k : Nat} (h : k < (wordAt xs a).length) : ∃ o, xs[a + k]? = some o ∧ o ≠ 0 := by
  obtain ⟨o, e, h0⟩ := (tw (xs.drop a)).1 k h
  exact ⟨o, by rw [List.getElem?_drop] at e; exact e, h0⟩
theorem word_end {xs : List Int} {a : Nat} (h : a + (wordAt xs a).length < xs.length) : xs[a + (wordAt xs a).length]? = some 0 := by
  have := (tw (xs.drop a)).2.1 (by rw [List.length_drop]; unfold wordAt at h; omega)
  rw [List.getElem?_drop] at this
  exact this
theorem word_cut (xs : List Int) (a : Nat) : (xs.drop a).take (wordAt xs a).length = wordAt xs a := (tw (xs.drop a)).2.2.symm
theorem word_le {xs : List Int} {a : Nat} (h : a ≤ xs.length) : a + (wordAt xs a).length ≤ xs.length := by
  have e := congrArg List.length (word_cut xs a)
  rw [List.length_take, List.length_drop] at e
  omega
def zer (xs : List Int) (a i : Nat) : List Int := ((List.range i).filter fun k => decide (xs[a + k]? = some 0)).map fun k => ((a + k : Nat) : Int)
theorem zer_step {xs : List Int} {a i : Nat} : zer xs a (i + 1) = zer xs a i ++ if xs[a + i]? = some 0 then [((a + i : Nat) : Int)] else [] := by
  unfold zer
  rw [List.range_succ, List.filter_append, List.map_append]
  congr 1
  by_cases c : xs[a + i]? = some 0
  · rw [if_pos c, List.filter_cons_of_pos (by simpa using c)]; rfl
  · rw [if_neg c, List.filter_cons_of_neg (by simpa using c)]; rfl
theorem zer_head {xs : List Int} {a : Nat} (ha : a ≤ xs.length) : if a + (wordAt xs a).length < xs.length then ∃ r, zer xs a (xs.length - a) = ((a + (wordAt xs a).length : Nat) : Int) :: r else zer xs a (xs.length - a) = [] := by
  have hle := word_le ha
  split
  · rename_i c
    have hf : ((List.range (xs.length - a)).filter fun k => decide (xs[a + k]? = some 0)).head? = some (wordAt xs a).length := by
      rw [List.head?_filter, List.find?_range_eq_some]
      refine ⟨by simpa using word_end c, by simp; omega, fun j hj => ?_⟩
      obtain ⟨o, e, h0⟩ := word_ne hj
      rw [e]
      simpa using h0
    unfold zer
    cases hl : (List.range (xs.length - a)).filter fun k => decide (xs[a + k]? = some 0) with
    | nil => rw [hl] at hf; cases hf
    | cons x r => rw [hl] at hf; cases hf; exact ⟨_, rfl⟩
  · rename_i c
    unfold zer
    rw [List.filter_eq_nil_iff.mpr]
    · rfl
    · intro k hk
      rw [List.mem_range] at hk
      obtain ⟨o, e, h0⟩ := word_ne (xs := xs) (a := a) (k := k) (by omega)
      rw [e]
      simpa using h0
def keyL : List Int := c_KEY_SIGNS.cps.toList.map fun c : Nat => (c : Int)
theorem eqv_l0 (xs : List Int) : PyData.eqv (.list (oD xs)) (.list []) = decide (xs = []) := eqv_list xs []
theorem sh_l0 : SeqAt.shaped (.list []) = true := sh_list []
theorem any_nat (l : List Nat) (o : Int) : (oD (l.map fun c : Nat => (c : Int))).any (fun z => PyData.eqv z (.int o)) = l.any fun c : Nat => decide ((c : Int) = o) := by
  unfold oD
  rw [List.any_map, List.any_map]
  congr 1
theorem idx_of {o : Int} (h0 : 0 ≤ o) : ∀ {l : List Nat}, (l.any fun c : Nat => decide ((c : Int) = o)) = true → ∃ j : Nat, l[j]? = some o.toNat ∧ ∀ (m z : Nat), m < j → l[m]? = some z → (z : Int) ≠ o
  | [], h => by cases h
  | c :: l, h => by
    by_cases hc : (c : Int) = o
    · exact ⟨0, by rw [← hc]; rfl, fun m z hm => absurd hm (Nat.not_lt_zero _)⟩
    · rw [List.any_cons, decide_eq_false hc, Bool.false_or] at h
      obtain ⟨j, e, hn⟩ := idx_of h0 h
      refine ⟨j + 1, e, fun m z hm hz => ?_⟩
      cases m with
      | zero => cases hz; exact hc
      | succ m => exact hn m z (by omega) hz
theorem word_all {xs : List Int} {a : Nat} (ho : Oct xs) : ∀ o ∈ wordAt xs a, 0 ≤ o := fun o h => (ho o (List.mem_of_mem_drop ((List.takeWhile_sublist _).subset h))).1
theorem at0 {α : Type} {x : α} {r : List α} : atI (x :: r) 0 = some x := DL.atI_nat (xs := x :: r) (k := 0) rfl
theorem filter_not {w : List Int} : (w.filter fun o => !isKeyC o) = [] ↔ w.all isKeyC = true := by
  rw [List.filter_eq_nil_iff, List.all_eq_true]
  constructor
  · intro h x hx
    have := h x hx
    simpa using this
  · intro h x hx
    rw [h x hx]; decide
theorem go__law_key_at : Go__law_key_at := by
  rintro as ⟨xs, a, rfl, ho, hl, ha⟩
  unfold w__law_key_at rdArgs
  walk_at "go"
  have hz := sizeLine_eq
  have hl20 : xs.length < 1048576 := hl
  have ek : rngD 48 58 ++ [.int 95] ++ rngD 97 123 = oD keyL := rfl
  refine ⟨48, 58, rfl, rfl, ⟨by decide, by decide, by decide, by decide, by decide⟩, by decide, by decide, 97, 123, rfl, rfl, ⟨by decide, by decide, by decide, by decide, by decide⟩, by decide, by decide, ?_⟩
  rw [ek]
  walk_at "ds"
  refine ⟨⟨by omega, by omega, by omega, by omega⟩, by rw [rngD_len]; omega, fun i acc s => (∃ v5, s = [some (.d (.tuple (oD xs))), some (.d (.int a)), some (.d (.list (oD keyL))), some (.d (.str c_KEY_SIGNS)), none, v5, none]) ∧ acc = oD (zer xs a i), ⟨⟨none, rfl⟩, rfl⟩, ?_, ?_⟩
  · rintro i d acc s2 hd ⟨⟨v5, rfl⟩, rfl⟩
    obtain ⟨rfl, hk⟩ := rngD_at hd
    have e0 : ((a : Int) + (i : Nat)) = ((a + i : Nat) : Int) := by omega
    rw [e0]
    have e := List.getElem?_eq_getElem (l := xs) (i := a + i) (by omega)
    generalize xs[a + i]'(by omega) = o at e
    walk_at "dw"
    refine ⟨.int o, L2.atI_nat (oD_get e), ?_⟩
    walk_at "dw"
    rw [zer_step, e]
    split
    · rename_i c
      rw [if_pos (by rw [c]), ← oD_app]
      exact ⟨⟨_, rfl⟩, rfl⟩
    · rename_i c
      rw [if_neg (by intro h; exact c (Option.some.inj h)), List.append_nil]
      exact ⟨⟨_, rfl⟩, rfl⟩
  · rintro acc s2 ⟨⟨v5, rfl⟩, rfl⟩
    rw [rngD_len]
    have en : ((xs.length : Int) - a).toNat = xs.length - a := by omega
    rw [en]
    have zh := zer_head ha
    have hle := word_le ha
    walk_at "dw"
    walk_at "ds"
    refine ⟨by decide, sh_list _, sh_l0, ?_⟩
    rw [eqv_l0]
    by_cases hw : a + (wordAt xs a).length < xs.length
    · rw [if_pos hw] at zh
      obtain ⟨r, er⟩ := zh
      rw [er, if_neg (by simp)]
      have e0 : atI (oD (((a + (wordAt xs a).length : Nat) : Int) :: r)) 0 = some (.int ((a + (wordAt xs a).length : Nat) : Int)) := at0
      have eh : ((a + (wordAt xs a).length : Nat) : Int) - (a : Int) = (wordAt xs a).length := by omega
      have ecut : cut (oD xs) (some (a : Int)) (some ((a + (wordAt xs a).length : Nat) : Int)) = oD (wordAt xs a) := by
        rw [cut_oD, DL.cutI rfl rfl, Nat.add_sub_cancel_left, word_cut]
      refine ⟨_, e0, ?_⟩
      walk_at "dw"
      rw [eh]
      by_cases c0 : (wordAt xs a).length = 0
      · rw [show decide ((0 : Int) < ((wordAt xs a).length : Nat)) = false from decide_eq_false (by omega)]
        walk_at "dw"
        exact ⟨by decide, xs, a, rfl, by rw [keyAt_none rfl (by rintro ⟨_, z, _⟩; exact z (List.length_eq_zero_iff.mp c0))]; rfl⟩
      · rw [show decide ((0 : Int) < ((wordAt xs a).length : Nat)) = true from decide_eq_true (by omega)]
        walk_at "dw"
        by_cases c1 : (wordAt xs a).length < 17
        · rw [show decide (((wordAt xs a).length : Int) < 17) = true from decide_eq_true (by omega)]
          walk_at "dw"
          refine ⟨_, e0, ?_⟩
          walk_at "dw"
          rw [ecut]
          refine ⟨by rw [oD_len]; omega, fun i acc s => s = [some (.d (.tuple (oD xs))), some (.d (.int a)), some (.d (.list (oD keyL))), some (.d (.str c_KEY_SIGNS)), some (.d (.list (oD (((a + (wordAt xs a).length : Nat) : Int) :: r)))), none, none] ∧ acc = oD (((wordAt xs a).take i).filter fun o => !isKeyC o), ⟨rfl, rfl⟩, ?_, ?_⟩
          · rintro i d acc s2 hd ⟨rfl, rfl⟩
            obtain ⟨o, hx, rfl⟩ := oD_at hd
            walk_at "dw"
            refine ⟨sh_list _, ?_⟩
            unfold keyL
            rw [any_nat]
            rw [List.take_add_one, hx, List.filter_append]
            show if (Bool.xor (!false) (isKeyC o)) = true then _ else _
            cases c : isKeyC o with
            | true =>
              rw [Option.toList_some, List.filter_cons_of_neg (by rw [c]; decide)]
              exact (by simp)
            | false =>
              rw [Option.toList_some, List.filter_cons_of_pos (by rw [c]; rfl), ← oD_app]
              rfl
          · rintro acc s2 ⟨rfl, rfl⟩
            rw [oD_len, List.take_length]
            walk_at "dw"
            refine ⟨by decide, sh_list _, sh_l0, ?_⟩
            rw [eqv_l0]
            by_cases c2 : (wordAt xs a).all isKeyC = true
            · rw [if_neg (by rw [decide_eq_true (filter_not.mpr c2)]; decide)]
              walk_at "ds"
              refine ⟨_, e0, ?_⟩
              walk_at "dw"
              rw [ecut]
              refine ⟨by rw [oD_len]; omega, fun i acc s => s = [some (.d (.tuple (oD xs))), some (.d (.int a)), some (.d (.list (oD keyL))), some (.d (.str c_KEY_SIGNS)), some (.d (.list (oD (((a + (wordAt xs a).length : Nat) : Int) :: r)))), none, none] ∧ acc = ((wordAt xs a).take i).map oneS, ⟨rfl, rfl⟩, ?_, ?_⟩
              · rintro i d acc s2 hd ⟨rfl, rfl⟩
                obtain ⟨o, hx, rfl⟩ := oD_at hd
                have hm := List.mem_of_getElem? hx
                have o0 := word_all ho o hm
                obtain ⟨j, ej, hn⟩ := idx_of o0 (List.all_eq_true.mp c2 o hm)
                walk_at "dw"
                have ej2 : keyL[j]? = some o := by
                  unfold keyL
                  rw [List.getElem?_map, ej]
                  exact congrArg some (Int.toNat_of_nonneg o0)
                refine ⟨⟨_, rfl⟩, _, j, .int o, rfl, sh_list _, oD_get ej2, by rw [DW.eqv_int]; exact decide_eq_true rfl, fun m z' hm hz' => ?_, by rw [hz]; decide, o.toNat, DL.atI_nat ej, ?_⟩
                · obtain ⟨y, ey, rfl⟩ := oD_at hz'
                  unfold keyL at ey
                  rw [List.getElem?_map] at ey
                  cases hq : c_KEY_SIGNS.cps.toList[m]? with
                  | none => rw [hq] at ey; cases ey
                  | some y' =>
                    rw [hq] at ey
                    cases ey
                    rw [DW.eqv_int]
                    exact decide_eq_false (hn m y' hm hq)
                · rw [List.take_add_one, hx, List.map_append]
                  rfl
              · rintro acc s2 ⟨rfl, rfl⟩
                rw [oD_len, List.take_length]
                walk_at "dw"
                refine ⟨_, _, _, rfl, .inl rfl, strsOf_ones _, ?_, _, e0, ?_⟩
                · rw [sum_ones]
                  have : (Str.ofString "").length = 0 := rfl
                  rw [this]; omega
                · walk_at "dw"
                  exact ⟨by decide, xs, a, rfl, by unfold rdKey; rw [keyAt_some rfl hw (by intro h; rw [h] at c0; exact c0 rfl) c2 (by omega), join_ones]; rfl⟩
            · rw [if_pos (by rw [decide_eq_false (fun h => c2 (filter_not.mp h))]; rfl)]
              exact ⟨by decide, xs, a, rfl, by rw [keyAt_none rfl (by rintro ⟨_, _, _, z⟩; exact c2 z)]; rfl⟩
        · rw [show decide (((wordAt xs a).length : Int) < 17) = false from decide_eq_false (by omega)]
          walk_at "dw"
          exact ⟨by decide, xs, a, rfl, by rw [keyAt_none rfl (by rintro ⟨_, _, z, _⟩; omega)]; rfl⟩
    · rw [if_neg hw] at zh
      rw [zh, if_pos (by rfl)]
      exact ⟨by decide, xs, a, rfl, by rw [keyAt_none rfl (by rintro ⟨z, _⟩; exact hw z)]; rfl⟩
end K04

namespace K04
open PySem PySem.Spec
open PyProof.Rows L2 DL DW
local macro_rules | `(tactic| walk_at "dw0") => `(tactic| simp only [DW.startS, DW.AV.sv, List.map_cons, List.map_nil, List.length_cons, List.length_nil, List.replicate_succ, List.replicate_zero, List.cons_append, List.nil_append, Nat.reduceAdd, Nat.reduceSub])
local macro_rules | `(tactic| walk_at "dw") => `(tactic| simp only [DW.wSeq, DW.wNext, DW.wIfS, DW.wRet, DW.wRetN, DW.wBreak, DW.wCont, DW.wSet, DW.wAsg, DW.wNew, DW.wNewL, DW.wNewC, DW.wExpr, DW.wApp, DW.wExt, DW.wExtA, DW.wPop, DW.wAug, DW.wRaise, DW.wVar, DW.wC, DW.wRaw, DW.wOp, DW.wUn, DW.waNil, DW.waCons, DW.wCB, DW.wTup, DW.wLst, DW.wTest, DW.wYes, DW.wAnd, DW.wOr, DW.wNot, DW.wTr, DW.gTr, DW.wAndV, DW.wOrV, DW.wNotV, DW.wIf, DW.rdq, DW.frz, DW.asg, DW.avf, DW.wuNil, DW.wuCons, DW.wCall, DW.wCallK, DW.wgName, DW.wgTup, DW.wgCons, DW.wgNil,
  DW.wParN, DW.wnNil, DW.wnD, DW.wnNew, DW.asgN, DW.gAdd, DW.gSub, DW.gMul, DW.gMod, DW.gDiv, DW.gPow, DW.gLt, DW.gLe, DW.gGt, DW.gGe, DW.gEq, DW.gNe, DW.gInB, DW.gIs, DW.gIsNot, DW.gIx, DW.gNeg, DW.gLen, DW.gToT, DW.gToL, DW.gInt, DW.gAbs, DW.gRepr, DW.gMin2, DW.gMax2, DW.gOrd, DW.gStr, DW.gAddI, DW.gSubI, DW.gIsB, DW.gIsntB, DW.gRep, DW.wJoin, DW.gJoin, DW.wIndex, DW.gIndex, DW.wRg1, DW.wRg2, DW.LT.mk, DW.wiSeq, DW.wiRng1, DW.wiRng2, DW.wiRngB, DW.wiEnumX, DW.wiEnum, DW.wipeS, DL.truth, DL.isNo, DW.wIsi, DW.wChain, DW.wSl, DW.gSl, DW.gRev, DW.woNone, DW.woSome, DW.wFor_eq, DW.wLc_eq, DW.wNewLc_eq, DW.one_ord, DW.one_len, DL.oD_len,
  DW.eqv_int, DW.sh_intT, true_and, List.getElem?_cons_zero, List.getElem?_cons_succ, List.set_cons_zero, List.set_cons_succ, List.length_cons, List.length_nil, if_true, if_false, decide_eq_true_eq, Bool.false_eq_true, reduceIte, List.cons_append, List.nil_append, Nat.reduceAdd, Bool.not_true, Bool.not_false])
local macro_rules | `(tactic| walk_at "ds") => `(tactic| repeat ((with_reducible refine DW.Kt_i ?_); (walk_at "dw")))
local macro_rules | `(tactic| walk_at "go") => `(tactic| ((walk_at "dw0"); (walk_at "dw"); (walk_at "ds")))
abbrev lawT : Str := " -./0123456789:ABCDEFGHIJKLMNOPQRSTUVWXYZ_abcdefghijklmnopqrstuvwxyz"
def textL : List Int := lawT.cps.toList.map fun c : Nat => (c : Int)
theorem lawT_any (o : Int) : (lawT.cps.toList.any fun c : Nat => decide ((c : Int) = o)) = isTextC o := by
  have h1 : lawT.cps.toList.all (fun c => c_TEXT_SIGNS.cps.toList.contains c) = true := by decide +kernel
  have h2 : c_TEXT_SIGNS.cps.toList.all (fun c => lawT.cps.toList.contains c) = true := by decide +kernel
  have tr : ∀ {l k : List Nat}, l.all (fun c => k.contains c) = true → (l.any fun c : Nat => decide ((c : Int) = o)) = true → (k.any fun c : Nat => decide ((c : Int) = o)) = true := by
    intro l k h g
    obtain ⟨c, hc, e⟩ := List.any_eq_true.mp g
    exact List.any_eq_true.mpr ⟨c, by simpa using List.all_eq_true.mp h c hc, e⟩
  unfold isTextC
  cases q : lawT.cps.toList.any fun c : Nat => decide ((c : Int) = o) with
  | true => exact (tr h1 q).symm
  | false =>
    cases r : c_TEXT_SIGNS.cps.toList.any fun c : Nat => decide ((c : Int) = o) with
    | true => rw [tr h2 r] at q; cases q
    | false => rfl
theorem strOf_snoc (w : List Int) (o : Int) : strOf w ++ (⟨#[o.toNat]⟩ : Str) = strOf (w ++ [o]) := by
  show Str.mk _ = _
  unfold strOf
  congr 1
  apply Array.ext'
  simp
theorem strOf_len (w : List Int) : (strOf w).length = w.length := by
  show ((w.map Int.toNat).toArray).size = _
  simp
theorem go__law_text_at : Go__law_text_at := by
  rintro as ⟨xs, a, rfl, ho, hl, ha⟩
  unfold w__law_text_at rdArgs
  walk_at "go"
  have hz := sizeLine_eq
  have hl20 : xs.length < 1048576 := hl
  have ek : PyData.int 32 :: (rngD 45 59 ++ rngD 65 91 ++ [.int 95] ++ rngD 97 123) = oD textL := rfl
  refine ⟨by decide, 45, 59, rfl, rfl, ⟨by decide, by decide, by decide, by decide, by decide⟩, by decide, 65, 91, rfl, rfl, ⟨by decide, by decide, by decide, by decide, by decide⟩, by decide, by decide, by decide, 97, 123, rfl, rfl, ⟨by decide, by decide, by decide, by decide, by decide⟩, by decide, ?_⟩
  rw [ek]
  walk_at "ds"
  refine ⟨⟨xs, a, rfl, ho, hl, ha⟩, ?_, fun _ _ z => z⟩
  rintro d ⟨xs', a', e, rfl⟩
  obtain ⟨rfl, rfl⟩ := rd_inj e
  unfold rdNum
  cases hg : getN xs a with
  | none =>
    unfold ownD pairD
    walk_at "dw"
    walk_at "ds"
    exact ⟨by decide, xs, a, rfl, by unfold rdText; rw [hg]; rfl⟩
  | some p =>
    obtain ⟨v, q⟩ := p
    obtain ⟨m, rfl, h1, h2, h3, hm⟩ := getN_some ho hg
    unfold ownD pairD
    walk_at "dw"
    walk_at "ds"
    split
    · rename_i c1
      exact ⟨by decide, xs, a, rfl, by unfold rdText; rw [hg]; show _ = ownD (if (32 : Int) < (m : Nat) then .bad a else goText xs ((m : Nat) : Int).toNat q []); rw [if_pos c1]; rfl⟩
    · rename_i c1
      have hr : goText xs m q [] = rdText xs a := by unfold rdText; rw [hg]; exact (if_neg c1).symm
      walk_at "ds"
      refine ⟨⟨by omega, by omega⟩, fun i s => ∃ (w : List Int) (v7 : Option SV), s = [some (.d (.tuple (oD xs))), some (.d (.int a)), some (.d (.str lawT)), some (.d (.list (oD textL))), some (.d (.int (m : Nat))), some (.d (.int ((q + i : Nat) : Int))), some (.d (.str (strOf w))), v7] ∧ w.length = i ∧ goText xs (m - i) (q + i) w = rdText xs a, ⟨[], none, rfl, rfl, hr⟩, ?_, ?_⟩
      · rintro i d s2 hd ⟨w, v7, rfl, hw, hr⟩
        obtain ⟨rfl, hk⟩ := rngD_at hd
        have ei : m - i = (m - (i + 1)) + 1 := by omega
        rw [ei] at hr
        unfold goText at hr
        walk_at "dw"
        split
        · rename_i c
          rw [List.getElem?_eq_none (by omega)] at hr
          exact ⟨by decide, xs, a, rfl, by rw [← hr]; rfl⟩
        · rename_i c
          have e := List.getElem?_eq_getElem (l := xs) (i := q + i) (by omega)
          generalize xs[q + i]'(by omega) = o at e
          have oo := ho o (List.mem_of_getElem? e)
          rw [e] at hr
          have hr : (if isTextC o = true then goText xs (m - (i + 1)) (q + i + 1) (w ++ [o]) else .bad (q + i)) = rdText xs a := hr
          refine ⟨.int o, L2.atI_nat (oD_get e), sh_int _, sh_list _, ?_⟩
          have ea : (oD textL).any (fun z => PyData.eqv z (.int o)) = isTextC o := by unfold textL; rw [any_nat, lawT_any]
          rw [ea]
          cases c3 : isTextC o with
          | false =>
            rw [c3] at hr
            rw [if_pos (by decide)]
            exact ⟨by decide, xs, a, rfl, by rw [← hr]; rfl⟩
          | true =>
            rw [if_pos c3] at hr
            rw [if_neg (by decide)]
            walk_at "ds"
            obtain ⟨j, ej, hn⟩ := idx_of oo.1 (l := lawT.cps.toList) (by rw [lawT_any, c3])
            have ej2 : textL[j]? = some o := by
              unfold textL
              rw [List.getElem?_map, ej]
              exact congrArg some (Int.toNat_of_nonneg oo.1)
            refine ⟨⟨_, rfl⟩, .int o, L2.atI_nat (oD_get e), ?_⟩
            walk_at "dw"
            refine ⟨_, j, .int o, rfl, sh_list _, oD_get ej2, by rw [DW.eqv_int]; exact decide_eq_true rfl, fun m z' hm hz' => ?_, by rw [hz]; decide, o.toNat, DL.atI_nat ej, by rw [strOf_len]; omega, w ++ [o], _, by rw [strOf_snoc]; rfl, by rw [List.length_append, List.length_singleton, hw], hr⟩
            obtain ⟨y, ey, rfl⟩ := oD_at hz'
            unfold textL at ey
            rw [List.getElem?_map] at ey
            cases hq : lawT.cps.toList[m]? with
            | none => rw [hq] at ey; cases ey
            | some y' =>
              rw [hq] at ey
              cases ey
              rw [DW.eqv_int]
              exact decide_eq_false (hn m y' hm hq)
      · rintro s2 ⟨w, v7, rfl, hw, hr⟩
        have el : (rngD 0 ((m : Nat) : Int)).length = m := by rw [rngD_len]; omega
        rw [el] at hr ⊢
        rw [Nat.sub_self] at hr
        walk_at "ds"
        exact ⟨by decide, xs, a, rfl, by rw [← hr]; rfl⟩
theorem goText_str {xs : List Int} : ∀ {k p q : Nat} {w : List Int} {v : PyData}, goText xs k p w = .ok v q → ∃ z, v = .str z
  | 0, p, q, w, v, h => by cases h; exact ⟨_, rfl⟩
  | k + 1, p, q, w, v, h => by
    unfold goText at h
    cases e : xs[p]? with
    | none => rw [e] at h; cases h
    | some o =>
      rw [e] at h
      have h : (if isTextC o = true then goText xs k (p + 1) (w ++ [o]) else .bad p) = .ok v q := h
      split at h
      · exact goText_str h
      · cases h
theorem rdText_str {xs : List Int} {a q : Nat} {v : PyData} (h : rdText xs a = .ok v q) : ∃ z, v = .str z := by
  unfold rdText at h
  cases e : getN xs a with
  | none => rw [e] at h; cases h
  | some p =>
    rw [e] at h
    dsimp only at h
    split at h
    · cases h
    · exact goText_str h
theorem zag_own (m : Nat) : zag (m : Int) = if (m : Int) % 2 = 0 then (m : Int) / 2 else 0 - ((m : Int) + 1) / 2 := by
  unfold zag
  split
  · rfl
  · omega
theorem go__law_value_at : Go__law_value_at := by
  rintro as ⟨xs, a, rfl, ho, hl, ha⟩
  unfold w__law_value_at rdArgs
  walk_at "go"
  have hz := sizeLine_eq
  have hl20 : xs.length < 1048576 := hl
  have ea : ((a : Int) + 1) = ((a + 1 : Nat) : Int) := by omega
  split
  · rename_i c
    have e := List.getElem?_eq_getElem (l := xs) (i := a) (by omega)
    generalize xs[a]'(by omega) = o at e
    have oo := ho o (List.mem_of_getElem? e)
    have hr : rdVal xs a = if 2 < o then .bad a else if o = 0 then .ok .none (a + 1) else if o = 2 then rdText xs (a + 1) else match getN xs (a + 1) with
      | none => .bad (a + 1)
      | some (v, q) => if zag v < -1000000000000000000 ∨ 1000000000000000000 < zag v then .bad (a + 1) else .ok (.int (zag v)) q := by unfold rdVal; rw [e] <;> rfl
    refine ⟨.int o, L2.atI_nat (oD_get e), ?_⟩
    walk_at "ds"
    split
    · rename_i c1
      rw [if_neg (by omega), if_pos c1] at hr
      exact ⟨by decide, by decide, xs, a, rfl, by rw [hr, ea]; rfl⟩
    · rename_i c1
      rw [if_neg c1] at hr
      walk_at "ds"
      split
      · rename_i c2
        rw [if_pos c2] at hr
        exact ⟨by decide, xs, a, rfl, by rw [hr]; rfl⟩
      · rename_i c2
        rw [if_neg c2] at hr
        walk_at "ds"
        split
        · rename_i c3
          rw [if_pos c3] at hr
          rw [ea]
          refine ⟨⟨xs, a + 1, rfl, ho, hl, by omega⟩, ?_, fun _ _ z => z⟩
          rintro d ⟨xs', a', e2, rfl⟩
          obtain ⟨rfl, rfl⟩ := rd_inj e2
          cases hk : rdText xs (a + 1) with
          | bad p =>
            unfold ownD pairD
            walk_at "dw"
            walk_at "ds"
            exact ⟨by decide, xs, a, rfl, by rw [hr, hk]; rfl⟩
          | ok v r =>
            obtain ⟨z, rfl⟩ := rdText_str hk
            unfold ownD pairD
            walk_at "dw"
            walk_at "ds"
            exact ⟨by decide, by decide, xs, a, rfl, by rw [hr, hk]; rfl⟩
        · rename_i c3
          rw [if_neg c3] at hr
          walk_at "ds"
          rw [ea]
          refine ⟨⟨xs, a + 1, rfl, ho, hl, by omega⟩, ?_, fun _ _ z => z⟩
          rintro d ⟨xs', a', e2, rfl⟩
          obtain ⟨rfl, rfl⟩ := rd_inj e2
          unfold rdNum
          cases hg : getN xs (a + 1) with
          | none =>
            rw [hg] at hr
            unfold ownD pairD
            walk_at "dw"
            walk_at "ds"
            exact ⟨by decide, xs, a, rfl, by rw [hr]; unfold ownV pairD; rw [ea]⟩
          | some p =>
            obtain ⟨v, q⟩ := p
            obtain ⟨m, rfl, h1, h2, h3, hm⟩ := getN_some ho hg
            rw [hg] at hr
            have hr : rdVal xs a = if zag (m : Nat) < -1000000000000000000 ∨ 1000000000000000000 < zag (m : Nat) then .bad (a + 1) else .ok (.int (zag (m : Nat))) q := hr
            unfold ownD pairD
            walk_at "dw"
            walk_at "ds"
            have hzag := zag_own m
            have hp := p9
            refine ⟨by decide, ?_⟩
            split
            · rename_i c5
              rw [if_pos c5] at hzag
              refine ⟨cdiv_small (by decide) (by decide), ?_⟩
              walk_at "ds"
              generalize zag (m : Nat) = z at hr hzag
              rw [← hzag]
              by_cases g1 : -1000000000000000000 ≤ z
              · rw [show decide ((-1000000000000000000 : Int) ≤ z) = true from decide_eq_true g1]
                walk_at "dw"
                split
                · rename_i g2
                  rw [if_neg (by omega)] at hr
                  exact ⟨by decide, by decide, xs, a, rfl, by rw [hr]; rfl⟩
                · rename_i g2
                  rw [if_pos (by omega)] at hr
                  exact ⟨by decide, xs, a, rfl, by rw [hr]; unfold ownV pairD; rw [ea]⟩
              · rw [show decide ((-1000000000000000000 : Int) ≤ z) = false from decide_eq_false g1]
                walk_at "dw"
                rw [if_pos (by omega)] at hr
                exact ⟨by decide, xs, a, rfl, by rw [hr]; unfold ownV pairD; rw [ea]⟩
            · rename_i c5
              rw [if_neg c5] at hzag
              refine ⟨cdiv_small (by decide) (by decide), ?_⟩
              walk_at "ds"
              generalize zag (m : Nat) = z at hr hzag
              rw [← hzag]
              by_cases g1 : -1000000000000000000 ≤ z
              · rw [show decide ((-1000000000000000000 : Int) ≤ z) = true from decide_eq_true g1]
                walk_at "dw"
                split
                · rename_i g2
                  rw [if_neg (by omega)] at hr
                  exact ⟨by decide, by decide, xs, a, rfl, by rw [hr]; rfl⟩
                · rename_i g2
                  rw [if_pos (by omega)] at hr
                  exact ⟨by decide, xs, a, rfl, by rw [hr]; unfold ownV pairD; rw [ea]⟩
              · rw [show decide ((-1000000000000000000 : Int) ≤ z) = false from decide_eq_false g1]
                walk_at "dw"
                rw [if_pos (by omega)] at hr
                exact ⟨by decide, xs, a, rfl, by rw [hr]; unfold ownV pairD; rw [ea]⟩
  · rename_i c
    walk_at "ds"
    rw [if_neg (by decide)]
    walk_at "ds"
    exact ⟨by decide, xs, a, rfl, by unfold rdVal; rw [List.getElem?_eq_none (by omega)]; rfl⟩
end K04

namespace K04
open PySem PySem.Spec
open PyProof.Rows L2 DL DW
local macro_rules | `(tactic| walk_at "dw0") => `(tactic| simp only [DW.startS, DW.AV.sv, List.map_cons, List.map_nil, List.length_cons, List.length_nil, List.replicate_succ, List.replicate_zero, List.cons_append, List.nil_append, Nat.reduceAdd, Nat.reduceSub])
local macro_rules | `(tactic| walk_at "dw") => `(tactic| simp only [DW.wSeq, DW.wNext, DW.wIfS, DW.wRet, DW.wRetN, DW.wBreak, DW.wCont, DW.wSet, DW.wAsg, DW.wNew, DW.wNewL, DW.wNewC, DW.wExpr, DW.wApp, DW.wExt, DW.wExtA, DW.wPop, DW.wAug, DW.wRaise, DW.wVar, DW.wC, DW.wRaw, DW.wOp, DW.wUn, DW.waNil, DW.waCons, DW.wCB, DW.wTup, DW.wLst, DW.wTest, DW.wYes, DW.wAnd, DW.wOr, DW.wNot, DW.wTr, DW.gTr, DW.wAndV, DW.wOrV, DW.wNotV, DW.wIf, DW.rdq, DW.frz, DW.asg, DW.avf, DW.wuNil, DW.wuCons, DW.wCall, DW.wCallK, DW.wgName, DW.wgTup, DW.wgCons, DW.wgNil,
  DW.wParN, DW.wnNil, DW.wnD, DW.wnNew, DW.asgN, DW.gAdd, DW.gSub, DW.gMul, DW.gMod, DW.gDiv, DW.gPow, DW.gLt, DW.gLe, DW.gGt, DW.gGe, DW.gEq, DW.gNe, DW.gInB, DW.gIs, DW.gIsNot, DW.gIx, DW.gNeg, DW.gLen, DW.gToT, DW.gToL, DW.gInt, DW.gAbs, DW.gRepr, DW.gMin2, DW.gMax2, DW.gOrd, DW.gStr, DW.gAddI, DW.gSubI, DW.gIsB, DW.gIsntB, DW.gRep, DW.wJoin, DW.gJoin, DW.wIndex, DW.gIndex, DW.wRg1, DW.wRg2, DW.LT.mk, DW.wiSeq, DW.wiRng1, DW.wiRng2, DW.wiRngB, DW.wiEnumX, DW.wiEnum, DW.wipeS, DL.truth, DL.isNo, DW.wIsi, DW.wChain, DW.wSl, DW.gSl, DW.gRev, DW.woNone, DW.woSome, DW.wFor_eq, DW.wLc_eq, DW.wNewLc_eq, DW.one_ord, DW.one_len, DL.oD_len,
  DW.eqv_int, DW.sh_intT, true_and, List.getElem?_cons_zero, List.getElem?_cons_succ, List.set_cons_zero, List.set_cons_succ, List.length_cons, List.length_nil, if_true, if_false, decide_eq_true_eq, Bool.false_eq_true, reduceIte, List.cons_append, List.nil_append, Nat.reduceAdd, Bool.not_true, Bool.not_false])
local macro_rules | `(tactic| walk_at "ds") => `(tactic| repeat ((with_reducible refine DW.Kt_i ?_); (walk_at "dw")))
local macro_rules | `(tactic| walk_at "go") => `(tactic| ((walk_at "dw0"); (walk_at "dw"); (walk_at "ds")))
def FlatD : PyData → Prop
  | .none => True
  | .int _ => True
  | .str z => PyData.strOk z = true
  | _ => False
theorem flat_ok {v : PyData} (h : FlatD v) : PyData.canLay0 v = true ∧ PyData.depth v = 0 := by
  cases v with
  | none => simp [PyData.canLay0, PyData.depth]
  | int i => simp [PyData.canLay0, PyData.depth]
  | str z => exact ⟨by rw [PyData.canLay0]; exact h, by simp [PyData.depth]⟩
  | bool b => exact h.elim
  | list _ => exact h.elim
  | tuple _ => exact h.elim
  | dict _ => exact h.elim
def FlatP (p : Str × PyData) : Prop := PyData.strOk p.1 = true ∧ FlatD p.2
theorem flats_lay : ∀ {ps : List (Str × PyData)}, (∀ p ∈ ps, FlatP p) → PyData.canLayAll0 (ps.map prD) = true ∧ PyData.depthAll (ps.map prD) ≤ 2
  | [], _ => by simp [PyData.canLayAll0, PyData.depthAll]
  | p :: ps, h => by
    obtain ⟨i1, i2⟩ := flats_lay fun q hq => h q (List.mem_cons_of_mem _ hq)
    obtain ⟨h1, h2⟩ := h p (List.mem_cons_self ..)
    obtain ⟨g1, g2⟩ := flat_ok h2
    constructor
    · rw [List.map_cons, PyData.canLayAll0, i1, Bool.and_true]
      unfold prD
      rw [PyData.canLay0, PyData.canLayAll0, PyData.canLayAll0, PyData.canLayAll0, g1]
      rw [PyData.canLay0, h1]
      rfl
    · rw [List.map_cons, PyData.depthAll]
      have : PyData.depth (prD p) ≤ 2 := by
        unfold prD
        rw [PyData.depth, PyData.depthAll, PyData.depthAll, PyData.depthAll, g2]
        simp [PyData.depth]
      omega
theorem sh_pairs {ps : List (Str × PyData)} (h : ∀ p ∈ ps, FlatP p) : SeqAt.shaped (.list (ps.map prD)) = true := by
  obtain ⟨h1, h2⟩ := flats_lay h
  unfold SeqAt.shaped
  rw [PyData.canLay0, h1, PyData.depth, Bool.true_and]
  exact decide_eq_true (by omega)
theorem sh_pairsT {ps : List (Str × PyData)} (h : ∀ p ∈ ps, FlatP p) : SeqAt.shaped (.tuple (ps.map prD)) = true := by
  obtain ⟨h1, h2⟩ := flats_lay h
  unfold SeqAt.shaped
  rw [PyData.canLay0, h1, PyData.depth, Bool.true_and]
  exact decide_eq_true (by omega)
theorem strOf_ok {w : List Int} (h : ∀ o ∈ w, 0 ≤ o ∧ o < 256) : PyData.strOk (strOf w) = true := by
  unfold PyData.strOk strOf
  rw [Array.all_eq_true]
  intro i hi
  have hi2 : i < w.length := by simpa using hi
  simp only [List.getElem_toArray, List.getElem_map, decide_eq_true_eq]
  have := h w[i] (List.getElem_mem ..)
  omega
theorem keyAt_ok {xs : List Int} {a q : Nat} {z : Str} (ho : Oct xs) (h : keyAt xs a = some (z, q)) : PyData.strOk z = true := by
  unfold keyAt at h
  split at h
  · obtain ⟨rfl, rfl⟩ := Prod.mk.inj (Option.some.inj h)
    exact strOf_ok fun o hm => ho o (List.mem_of_mem_drop ((List.takeWhile_sublist _).subset hm))
  · cases h
theorem goText_ok {xs : List Int} (ho : Oct xs) : ∀ {k p q : Nat} {w : List Int} {v : PyData}, (∀ o ∈ w, 0 ≤ o ∧ o < 256) → goText xs k p w = .ok v q → FlatD v
  | 0, p, q, w, v, hw, h => by cases h; exact strOf_ok hw
  | k + 1, p, q, w, v, hw, h => by
    unfold goText at h
    cases e : xs[p]? with
    | none => rw [e] at h; cases h
    | some o =>
      rw [e] at h
      have h : (if isTextC o = true then goText xs k (p + 1) (w ++ [o]) else .bad p) = .ok v q := h
      split at h
      · exact goText_ok ho (fun x hx => by
          rcases List.mem_append.mp hx with hx | hx
          · exact hw x hx
          · rw [List.mem_singleton.mp hx]; exact ho o (List.mem_of_getElem? e)) h
      · cases h
theorem rdText_ok {xs : List Int} {a q : Nat} {v : PyData} (ho : Oct xs) (h : rdText xs a = .ok v q) : FlatD v := by
  unfold rdText at h
  cases e : getN xs a with
  | none => rw [e] at h; cases h
  | some p =>
    rw [e] at h
    dsimp only at h
    split at h
    · cases h
    · exact goText_ok ho (fun _ z => absurd z List.not_mem_nil) h
theorem rdVal_ok {xs : List Int} {a q : Nat} {v : PyData} (ho : Oct xs) (h : rdVal xs a = .ok v q) : FlatD v := by
  unfold rdVal at h
  cases e : xs[a]? with
  | none => rw [e] at h; cases h
  | some o =>
    rw [e] at h
    dsimp only at h
    split at h
    · cases h
    · split at h
      · cases h; trivial
      · split at h
        · exact rdText_ok ho h
        · cases e2 : getN xs (a + 1) with
          | none => rw [e2] at h; cases h
          | some p =>
            rw [e2] at h
            dsimp only at h
            split at h
            · cases h
            · cases h; trivial
theorem eqv_prs0 (ps : List (Str × PyData)) : PyData.eqv (.list (ps.map prD)) (.list []) = decide (ps = []) := by
  unfold PyData.eqv
  cases ps with
  | nil => simp [PyData.eqvAll]
  | cons _ _ => simp [PyData.eqvAll]
theorem go__law_pairs_at : Go__law_pairs_at := by
  rintro as ⟨xs, a, b, rfl, ho, hl, ha⟩
  unfold w__law_pairs_at rdArgs
  walk_at "go"
  have hz := sizeLine_eq
  have hp := p9
  have hl20 : xs.length < 1048576 := hl
  refine ⟨⟨xs, a, rfl, ho, hl, ha⟩, ?_, fun _ _ z => z⟩
  rintro d ⟨xs', a', e, rfl⟩
  obtain ⟨rfl, rfl⟩ := rd_inj e
  unfold rdNum
  cases hg : getN xs a with
  | none =>
    unfold ownD pairD
    walk_at "dw"
    walk_at "ds"
    exact ⟨by decide, xs, a, b, rfl, by unfold rdPairs; rw [hg]; rfl⟩
  | some p =>
    obtain ⟨v, q⟩ := p
    obtain ⟨m, rfl, h1, h2, h3, hm⟩ := getN_some ho hg
    unfold ownD pairD
    walk_at "dw"
    walk_at "ds"
    generalize hn : (if (xs.length : Int) + 1 < (m : Nat) then (xs.length : Int) + 1 else (m : Nat)) = n
    have n0 : 0 ≤ n ∧ n ≤ xs.length + 1 ∧ n ≤ m ∧ (n < m → n = xs.length + 1) := by split at hn <;> omega
    refine ⟨⟨by omega, by omega⟩, fun i s => ∃ (p : Nat) (ps : List (Str × PyData)) (v6 v7 v8 v9 v10 : Option SV), s = [some (.d (.tuple (oD xs))), some (.d (.int a)), some (.d (.bool b)), some (.d (.int (m : Nat))), some (.d (.int (p : Nat))), some (.own (ps.map prD)), v6, v7, v8, v9, v10] ∧ p ≤ xs.length ∧ ps.length ≤ p ∧ i ≤ p ∧ (∀ p ∈ ps, FlatP p) ∧ goPairs xs (!b) (m - i) p ps = rdPairs (!b) xs a,
      ⟨q, [], none, none, none, none, none, rfl, h2, Nat.zero_le _, Nat.zero_le _, (fun _ z => absurd z List.not_mem_nil), by unfold rdPairs; rw [hg]; rfl⟩, ?_, ?_⟩
    · rintro i d s2 hd ⟨p, ps, v6, v7, v8, v9, v10, rfl, hp1, hp2, hp3, hsh, hr⟩
      obtain ⟨rfl, hk⟩ := rngD_at hd
      have ei : m - i = (m - (i + 1)) + 1 := by omega
      rw [ei] at hr
      unfold goPairs at hr
      walk_at "dw"
      refine ⟨⟨xs, p, rfl, ho, hl, hp1⟩, ?_, fun _ _ z => z⟩
      rintro d ⟨xs', a', e, rfl⟩
      obtain ⟨rfl, rfl⟩ := rd_inj e
      cases hkr : rdKey xs p with
      | bad r =>
        cases rdKey_bad hkr
        unfold rdKey at hkr
        cases ek : keyAt xs p with
        | some zq => rw [ek] at hkr; cases hkr
        | none =>
          rw [ek] at hr
          unfold ownD pairD
          walk_at "dw"
          walk_at "ds"
          exact ⟨by decide, xs, a, b, rfl, by rw [← hr]; rfl⟩
      | ok v r =>
        obtain ⟨z, rfl, ek⟩ := rdKey_str hkr
        have hq := keyAt_le ek
        rw [ek] at hr
        have hr : (if behind ps z = true then .bad p else match rdVal xs r with
          | .bad r => .bad r
          | .ok v r2 => if (isNo v && !(!b)) = true then .bad r else goPairs xs (!b) (m - (i + 1)) r2 (ps ++ [(z, v)])) = rdPairs (!b) xs a := hr
        unfold ownD pairD
        walk_at "dw"
        walk_at "ds"
        refine ⟨by decide, sh_pairs hsh, sh_l0, ?_⟩
        rw [eqv_prs0]
        by_cases c : ps = []
        · have hb2 : behind ps z = false := by rw [c]; rfl
          rw [if_neg (by rw [hb2]; decide)] at hr
          rw [if_neg (by rw [decide_eq_true c]; decide)]
          walk_at "ds"
          refine ⟨⟨xs, r, rfl, ho, hl, hq.2⟩, ?_, fun _ _ z => z⟩
          rintro d ⟨xs', a', e, rfl⟩
          obtain ⟨rfl, rfl⟩ := rd_inj e
          cases hv : rdVal xs r with
          | bad p2 =>
            rw [hv] at hr
            unfold ownV pairD
            walk_at "dw"
            walk_at "ds"
            exact ⟨by decide, xs, a, b, rfl, by rw [← hr]; rfl⟩
          | ok v r2 =>
            have hrl := rdVal_le ho hv
            have hfl := rdVal_ok ho hv
            rw [hv] at hr
            have hr : (if (isNo v && !(!b)) = true then .bad r else goPairs xs (!b) (m - (i + 1)) r2 (ps ++ [(z, v)])) = rdPairs (!b) xs a := hr
            have fin : (isNo v && !(!b)) = false → goPairs xs (!b) (m - (i + 1)) r2 (ps ++ [(z, v)]) = rdPairs (!b) xs a := fun h => by rw [if_neg (by rw [h]; decide)] at hr; exact hr
            have hsh2 : ∀ p ∈ ps ++ [(z, v)], FlatP p := fun p hp => by
              rcases List.mem_append.mp hp with hp | hp
              · exact hsh p hp
              · rw [List.mem_singleton.mp hp]; exact ⟨keyAt_ok ho ek, hfl⟩
            have e0 : atI [v] 0 = some v := at0
            unfold ownV pairD
            cases b with
            | false =>
              walk_at "dw"
              walk_at "ds"
              refine ⟨⟨_, rfl⟩, v, e0, by decide, by rw [List.length_map]; omega, ?_⟩
              walk_at "ds"
              exact ⟨r2, ps ++ [(z, v)], _, _, _, _, _, by rw [List.map_append]; rfl, hrl.2, by rw [List.length_append, List.length_singleton]; omega, by omega, hsh2, fin (by cases v <;> rfl)⟩
            | true =>
              walk_at "dw"
              walk_at "ds"
              refine ⟨v, e0, ?_⟩
              cases v with
              | none =>
                walk_at "dw"
                exact ⟨by decide, xs, a, true, rfl, by rw [← hr]; rfl⟩
              | _ =>
                walk_at "ds"
                refine ⟨⟨_, rfl⟩, _, e0, (by rw [hz]; show 2 ≤ 16777216; decide), by rw [List.length_map]; omega, ?_⟩
                walk_at "ds"
                exact ⟨r2, ps ++ [(z, _)], _, _, _, _, _, by rw [List.map_append]; rfl, hrl.2, by rw [List.length_append, List.length_singleton]; omega, by omega, hsh2, fin rfl⟩
        · obtain ⟨pp, e1, e2, e3⟩ := behind_eq (ps := ps) (z := z) c
          rw [if_pos (by rw [decide_eq_false c]; rfl)]
          refine ⟨_, e3, ?_⟩
          unfold prD
          walk_at "dw"
          refine ⟨.str pp.1, at0, ?_⟩
          walk_at "dw"
          rw [e2] at hr
          refine ite_use (fun c2 => ?_) fun c2 => ?_
          · rw [if_pos c2] at hr
            exact ⟨by decide, xs, a, b, rfl, by rw [← hr]; rfl⟩
          · rw [if_neg c2] at hr
            walk_at "ds"
            refine ⟨⟨xs, r, rfl, ho, hl, hq.2⟩, ?_, fun _ _ z => z⟩
            rintro d ⟨xs', a', e, rfl⟩
            obtain ⟨rfl, rfl⟩ := rd_inj e
            cases hv : rdVal xs r with
            | bad p2 =>
              rw [hv] at hr
              unfold ownV pairD
              walk_at "dw"
              walk_at "ds"
              exact ⟨by decide, xs, a, b, rfl, by rw [← hr]; rfl⟩
            | ok v r2 =>
              have hrl := rdVal_le ho hv
              have hfl := rdVal_ok ho hv
              rw [hv] at hr
              have hr : (if (isNo v && !(!b)) = true then .bad r else goPairs xs (!b) (m - (i + 1)) r2 (ps ++ [(z, v)])) = rdPairs (!b) xs a := hr
              have fin : (isNo v && !(!b)) = false → goPairs xs (!b) (m - (i + 1)) r2 (ps ++ [(z, v)]) = rdPairs (!b) xs a := fun h => by rw [if_neg (by rw [h]; decide)] at hr; exact hr
              have hsh2 : ∀ p ∈ ps ++ [(z, v)], FlatP p := fun p hp => by
                rcases List.mem_append.mp hp with hp | hp
                · exact hsh p hp
                · rw [List.mem_singleton.mp hp]; exact ⟨keyAt_ok ho ek, hfl⟩
              have e0 : atI [v] 0 = some v := at0
              unfold ownV pairD
              cases b with
              | false =>
                walk_at "dw"
                walk_at "ds"
                refine ⟨⟨_, rfl⟩, v, e0, by decide, by rw [List.length_map]; omega, ?_⟩
                walk_at "ds"
                exact ⟨r2, ps ++ [(z, v)], _, _, _, _, _, by rw [List.map_append]; rfl, hrl.2, by rw [List.length_append, List.length_singleton]; omega, by omega, hsh2, fin (by cases v <;> rfl)⟩
              | true =>
                walk_at "dw"
                walk_at "ds"
                refine ⟨v, e0, ?_⟩
                cases v with
                | none =>
                  walk_at "dw"
                  exact ⟨by decide, xs, a, true, rfl, by rw [← hr]; rfl⟩
                | _ =>
                  walk_at "ds"
                  refine ⟨⟨_, rfl⟩, _, e0, (by rw [hz]; show 2 ≤ 16777216; decide), by rw [List.length_map]; omega, ?_⟩
                  walk_at "ds"
                  exact ⟨r2, ps ++ [(z, _)], _, _, _, _, _, by rw [List.map_append]; rfl, hrl.2, by rw [List.length_append, List.length_singleton]; omega, by omega, hsh2, fin rfl⟩
    · rintro s2 ⟨p, ps, v6, v7, v8, v9, v10, rfl, hp1, hp2, hp3, hsh, hr⟩
      walk_at "ds"
      rw [rngD_len] at hp3 hr
      have e0 : m - (n - 0).toNat = 0 := by omega
      rw [e0] at hr
      exact ⟨by decide, xs, a, b, rfl, by rw [← hr]; rfl⟩
end K04

namespace K04
open PySem PySem.Spec
open PyProof.Rows L2 DL DW
local macro_rules | `(tactic| walk_at "dw0") => `(tactic| simp only [DW.startS, DW.AV.sv, List.map_cons, List.map_nil, List.length_cons, List.length_nil, List.replicate_succ, List.replicate_zero, List.cons_append, List.nil_append, Nat.reduceAdd, Nat.reduceSub])
local macro_rules | `(tactic| walk_at "dw") => `(tactic| simp only [DW.wSeq, DW.wNext, DW.wIfS, DW.wRet, DW.wRetN, DW.wBreak, DW.wCont, DW.wSet, DW.wAsg, DW.wNew, DW.wNewL, DW.wNewC, DW.wExpr, DW.wApp, DW.wExt, DW.wExtA, DW.wPop, DW.wAug, DW.wRaise, DW.wVar, DW.wC, DW.wRaw, DW.wOp, DW.wUn, DW.waNil, DW.waCons, DW.wCB, DW.wTup, DW.wLst, DW.wTest, DW.wYes, DW.wAnd, DW.wOr, DW.wNot, DW.wTr, DW.gTr, DW.wAndV, DW.wOrV, DW.wNotV, DW.wIf, DW.rdq, DW.frz, DW.asg, DW.avf, DW.wuNil, DW.wuCons, DW.wCall, DW.wCallK, DW.wgName, DW.wgTup, DW.wgCons, DW.wgNil,
  DW.wParN, DW.wnNil, DW.wnD, DW.wnNew, DW.asgN, DW.gAdd, DW.gSub, DW.gMul, DW.gMod, DW.gDiv, DW.gPow, DW.gLt, DW.gLe, DW.gGt, DW.gGe, DW.gEq, DW.gNe, DW.gEqS, DW.gNeS, DW.pick, List.filterMap_cons, List.filterMap_nil, DW.gInB, DW.gIs, DW.gIsNot, DW.gIx, DW.gNeg, DW.gLen, DW.gToT, DW.gToL, DW.gInt, DW.gAbs, DW.gRepr, DW.gMin2, DW.gMax2, DW.gOrd, DW.gStr, DW.gAddI, DW.gSubI, DW.gIsB, DW.gIsntB, DW.gRep, DW.wJoin, DW.gJoin, DW.wIndex, DW.gIndex, DW.wRg1, DW.wRg2, DW.LT.mk, DW.wiSeq, DW.wiRng1, DW.wiRng2, DW.wiRngB, DW.wiEnumX, DW.wiEnum, DW.wipeS, DL.truth, DL.isNo, DW.wIsi, DW.wChain, DW.wSl, DW.gSl, DW.gRev, DW.woNone, DW.woSome, DW.wFor_eq, DW.wLc_eq, DW.wNewLc_eq, DW.one_ord, DW.one_len, DL.oD_len,
  DW.eqv_int, DW.sh_intT, true_and, List.getElem?_cons_zero, List.getElem?_cons_succ, List.set_cons_zero, List.set_cons_succ, List.length_cons, List.length_nil, if_true, if_false, decide_eq_true_eq, Bool.false_eq_true, reduceIte, List.cons_append, List.nil_append, Nat.reduceAdd, Bool.not_true, Bool.not_false])
local macro_rules | `(tactic| walk_at "ds") => `(tactic| repeat ((with_reducible refine DW.Kt_i ?_); (walk_at "dw")))
local macro_rules | `(tactic| walk_at "go") => `(tactic| ((walk_at "dw0"); (walk_at "dw"); (walk_at "ds")))
/-! ### the four words -/
abbrev wN : Str := "numbers"
abbrev wR : Str := "range"
abbrev wE : Str := "entries"
abbrev wW : Str := "writes"
def Word (w : Str) : Prop := w = wN ∨ w = wR ∨ w = wE ∨ w = wW
def rdW (w : Str) : List Int → Nat → Rd := if w = wN then rdNums else if w = wR then rdRange else rdPairs (!decide (w = wE))
/-- a thing of a word, and its octets -/
def Thing (w : Str) (t : PyData) (e : List Int) : Prop := (w = wN ∧ ∃ ns, t = .tuple (oD ns) ∧ ns.length < 2 ^ 10 ∧ (∀ n ∈ ns, 0 ≤ n ∧ n < 2 ^ 63) ∧ e = encNums ns) ∨
  (w = wR ∧ ∃ lo hi, t = .tuple [lo, hi] ∧ (OkEnd lo ∧ FlatD lo) ∧ (OkEnd hi ∧ FlatD hi) ∧ e = encRange lo hi) ∨
  ((w = wE ∨ w = wW) ∧ ∃ ps, t = pairsD ps ∧ ps.length < 2 ^ 10 ∧ (∀ p ∈ ps, (p.1.length ≤ 16 ∧ OkVal p.2) ∧ FlatP p) ∧ e = encPairs ps)
/-- short enough to be shown -/
structure Fit (d : PyData) : Prop where
  sh : d.showable = true
  lv : d.leavesShort 20 = true
  wt : d.weight ≤ 2 ^ 18
  dp : d.depth ≤ 50
theorem Fit.len {d : PyData} (h : Fit d) : d.shown.length ≤ sizeLine := by
  have h1 := PyData.shown_le 20 (by decide) d h.lv
  have h2 := h.wt
  have h3 := sizeLine_eq
  have h4 : (2 : Nat) ^ 18 = 262144 := by decide
  omega
def pre__law_two (as : List AV) : Prop := ∃ d, as = [.d d, .d d] ∧ Fit d
def post__law_two (as : List AV) (r : PyData) : Prop := ∃ d, as = [.d d, .d d] ∧ r = d
abbrev exc__law_two := noE
theorem len__law_two : ∀ as, pre__law_two as → as.length = 2 := by rintro as ⟨_, rfl, _⟩; rfl
def pre__law_read (as : List AV) : Prop := ∃ (w : Str) (xs : List Int) (a : Nat), as = .d (.str w) :: rdArgs xs a ∧ Word w ∧ Oct xs ∧ xs.length < 2 ^ 20 ∧ a ≤ xs.length
def post__law_read (as : List AV) (d : PyData) : Prop := ∃ (w : Str) (xs : List Int) (a : Nat), as = .d (.str w) :: rdArgs xs a ∧ d = ownD (rdW w xs a)
abbrev exc__law_read := noE
theorem len__law_read : ∀ as, pre__law_read as → as.length = 3 := by rintro as ⟨_, _, _, rfl, _⟩; rfl
def pre__law_put (as : List AV) : Prop := ∃ w t e, as = [.d (.str w), .d t] ∧ Thing w t e
def post__law_put (as : List AV) (d : PyData) : Prop := ∀ w t e, as = [.d (.str w), .d t] → Thing w t e → d = .tuple (oD e)
abbrev exc__law_put := noE
theorem len__law_put : ∀ as, pre__law_put as → as.length = 2 := by rintro as ⟨_, _, _, rfl, _⟩; rfl
def pre__law_got (as : List AV) : Prop := ∃ (w : Str) (xs : List Int) (a : Nat), as = .d (.str w) :: rdArgs xs a ∧ Word w ∧ Oct xs ∧ xs.length < 2 ^ 10 ∧ a ≤ xs.length
def post__law_got (as : List AV) (d : PyData) : Prop := ∃ (w : Str) (xs : List Int) (a : Nat) (v : PyData) (q : Nat), as = .d (.str w) :: rdArgs xs a ∧ rdW w xs a = .ok v q ∧ d = pairD v q
def exc__law_got (as : List AV) (c : Str) (x : PyData) : Prop := ∃ (w : Str) (xs : List Int) (a p : Nat), as = .d (.str w) :: rdArgs xs a ∧ rdW w xs a = .bad p ∧ c = "InvalidOctets" ∧ x = .int p
theorem len__law_got : ∀ as, pre__law_got as → as.length = 3 := by rintro as ⟨_, _, _, rfl, _⟩; rfl
section
variable {P : Program} {w : World} {K : PySem.W.Frag} {mg : Str → Option Value} {base : Heap} {f : Addr} {fd : FuncData}
abbrev s__law_two : Stmt := top 58
abbrev N__law_two : List Str := ["_law_one", "_law_other"]
theorem sc__law_two : FnScope N__law_two ["_law_one", "_law_other"] (defScope s__law_two) := ⟨rfl, rfl, rfl, by decide +kernel, rfl, by decide +kernel, by decide +kernel⟩
def w__law_two : WS := (wRet (wIf (wTest (wOp gEqS (wUn gRepr (wVar 0)) (wUn gRepr (wVar 1)))) (wVar 0) (wLst (waCons (wC (.str "unlike")) (waCons (wVar 0) (waCons (wVar 1) waNil))))))
def Go__law_two : Prop := ∀ as, pre__law_two as → w__law_two (startS 2 as) ⟨fun _ => post__law_two as .none, fun d _ => post__law_two as d, fun _ => False, fun _ => False, fun c x _ => exc__law_two as c x⟩
theorem ok__law_two (go : Go__law_two) (F : FnP K "_law_two" s__law_two f fd) (T : Fx mg)  : FnG P w K mg base (L2.CX P w) 1 f fd ["_law_one", "_law_other"] (spU K (erL K) anyM pre__law_two post__law_two exc__law_two) := by
  have nd := sc__law_two.nd
  refine fn_w (ws := w__law_two) F sc__law_two len__law_two (by decide) (fun cdv A out s H E hG hr => ?_) go
  exact ⟨_, (dss_one (ds_ret (de_ifx (dt_cmp op_eq os_eqS (nomark _) (de_b1 (cl_reprK K rfl hG (hu64 hr)) us_repr T.b_repr (de_var (pv 0))) (de_b1 (cl_reprK K rfl hG (hu64 hr)) us_repr T.b_repr (de_var (pv 1)))) (de_var (pv 0)) (de_lst (da_cons' (de_str pe_str) (da_cons' (de_var (pv 0)) (da_cons' (de_var (pv 1)) da_nil')))))))⟩


abbrev s__law_read : Stmt := top 51
abbrev N__law_read : List Str := ["_law_word", "_law_octets", "_law_at"]
theorem sc__law_read : FnScope N__law_read ["_law_word", "_law_octets", "_law_at"] (defScope s__law_read) := ⟨rfl, rfl, rfl, by decide +kernel, rfl, by decide +kernel, by decide +kernel⟩
def w__law_read : WS := (wSeq (wIfS (wTest (wOp gEqS (wVar 0) (wC (.str "numbers")))) (wRet (wCall pre__law_numbers_at post__law_numbers_at exc__law_numbers_at (wuCons (wVar 1) (wuCons (wVar 2) wuNil))))
 wNext)
 (wSeq (wIfS (wTest (wOp gEqS (wVar 0) (wC (.str "range")))) (wRet (wCall pre__law_range_at post__law_range_at exc__law_range_at (wuCons (wVar 1) (wuCons (wVar 2) wuNil))))
 wNext)
 (wRet (wCall pre__law_pairs_at post__law_pairs_at exc__law_pairs_at (wuCons (wVar 1) (wuCons (wVar 2) (wuCons (wOp gEqS (wVar 0) (wC (.str "entries"))) wuNil)))))))
def Go__law_read : Prop := ∀ as, pre__law_read as → w__law_read (startS 3 as) ⟨fun _ => post__law_read as .none, fun d _ => post__law_read as d, fun _ => False, fun _ => False, fun c x _ => exc__law_read as c x⟩
theorem ok__law_read (go : Go__law_read) (F : FnP K "_law_read" s__law_read f fd) (T : Fx mg) (C__law_numbers_at : Ca5 P w K mg base (L2.CX P w) 2 "_law_numbers_at" ["_law_octets", "_law_at"] (spU K (erL K) anyM pre__law_numbers_at post__law_numbers_at exc__law_numbers_at)) (C__law_range_at : Ca5 P w K mg base (L2.CX P w) 2 "_law_range_at" ["_law_octets", "_law_at"] (spU K (erL K) anyM pre__law_range_at post__law_range_at exc__law_range_at)) (C__law_pairs_at : Ca5 P w K mg base (L2.CX P w) 4 "_law_pairs_at" ["_law_octets", "_law_at", "_law_whole"] (spU K (erL K) anyM pre__law_pairs_at post__law_pairs_at exc__law_pairs_at)) : FnG P w K mg base (L2.CX P w) 5 f fd ["_law_word", "_law_octets", "_law_at"] (spU K (erL K) anyM pre__law_read post__law_read exc__law_read) := by
  have nd := sc__law_read.nd
  refine fn_w (ws := w__law_read) F sc__law_read len__law_read (by decide) (fun cdv A out s H E hG hr => ?_) go
  exact ⟨_, (dss_cons (ds_if (dt_cmp op_eq os_eqS (nomark _) (de_var (pv 0)) (de_str pe_str)) (dss_one (ds_ret (de_call C__law_numbers_at hG (hr.mono (by decide)) (passW (takes_of rfl rfl rfl rfl)) (fun _ _ => trivial) (du_cons (de_var (pv 1)) (du_cons (de_var (pv 2)) du_nil)))))
 dss_nil)
 (dss_cons (ds_if (dt_cmp op_eq os_eqS (nomark _) (de_var (pv 0)) (de_str pe_str)) (dss_one (ds_ret (de_call C__law_range_at hG (hr.mono (by decide)) (passW (takes_of rfl rfl rfl rfl)) (fun _ _ => trivial) (du_cons (de_var (pv 1)) (du_cons (de_var (pv 2)) du_nil)))))
 dss_nil)
 (dss_one (ds_ret (de_call C__law_pairs_at hG (hr.mono (by decide)) (passW (takes_of rfl rfl rfl rfl)) (fun _ _ => trivial) (du_cons (de_var (pv 1)) (du_cons (de_var (pv 2)) (du_cons (de_cmp op_eq os_eqS (nomark _) (de_var (pv 0)) (de_str pe_str)) du_nil))))))))⟩

abbrev s__law_put : Stmt := top 53
abbrev N__law_put : List Str := ["_law_word", "_law_thing_here"]
theorem sc__law_put : FnScope N__law_put ["_law_word", "_law_thing_here"] (defScope s__law_put) := ⟨rfl, rfl, rfl, by decide +kernel, rfl, by decide +kernel, by decide +kernel⟩
def w__law_put : WS := (wSeq (wIfS (wTest (wOp gEqS (wVar 0) (wC (.str "numbers")))) (wRet (wCallK pre_put_numbers post_put_numbers exc_put_numbers [0] 0 (List.length [("numbers" : Str)]) wuNil (wuCons (wVar 1) wuNil)))
 wNext)
 (wSeq (wIfS (wTest (wOp gEqS (wVar 0) (wC (.str "range")))) (wRet (wCall pre__law_two post__law_two exc__law_two (wuCons (wCall pre_put_range post_put_range exc_put_range (wuCons (wVar 1) wuNil)) (wuCons (wCallK pre_put_range post_put_range exc_put_range [0] 0 (List.length [("bounds" : Str)]) wuNil (wuCons (wVar 1) wuNil)) wuNil))))
 wNext)
 (wRet (wIf (wTest (wOp gEqS (wVar 0) (wC (.str "entries")))) (wCall pre_put_entries post_put_entries exc_put_entries (wuCons (wVar 1) wuNil)) (wCall pre_put_writes post_put_writes exc_put_writes (wuCons (wVar 1) wuNil))))))
def Go__law_put : Prop := ∀ as, pre__law_put as → w__law_put (startS 2 as) ⟨fun _ => post__law_put as .none, fun d _ => post__law_put as d, fun _ => False, fun _ => False, fun c x _ => exc__law_put as c x⟩
theorem ok__law_put (go : Go__law_put) (F : FnP K "_law_put" s__law_put f fd) (T : Fx mg) (C__law_two : Ca5 P w K mg base (L2.CX P w) 1 "_law_two" ["_law_one", "_law_other"] (spU K (erL K) anyM pre__law_two post__law_two exc__law_two)) (C_put_range : Ca5 P w K mg base (L2.CX P w) 4 "put_range" ["bounds"] (spU K (erL K) anyM pre_put_range post_put_range exc_put_range)) (C_put_entries : Ca5 P w K mg base (L2.CX P w) 5 "put_entries" ["entries"] (spU K (erL K) anyM pre_put_entries post_put_entries exc_put_entries)) (C_put_writes : Ca5 P w K mg base (L2.CX P w) 4 "put_writes" ["pairs"] (spU K (erL K) anyM pre_put_writes post_put_writes exc_put_writes)) (C_put_numbers_K0_numbers : CaN P w K mg base (L2.CX P w) 2 "put_numbers" ["numbers"] 0 ["numbers"] [0] (spU K (erL K) anyM pre_put_numbers post_put_numbers exc_put_numbers)) (C_put_range_K0_bounds : CaN P w K mg base (L2.CX P w) 4 "put_range" ["bounds"] 0 ["bounds"] [0] (spU K (erL K) anyM pre_put_range post_put_range exc_put_range)) : FnG P w K mg base (L2.CX P w) 6 f fd ["_law_word", "_law_thing_here"] (spU K (erL K) anyM pre__law_put post__law_put exc__law_put) := by
  have nd := sc__law_put.nd
  refine fn_w (ws := w__law_put) F sc__law_put len__law_put (by decide) (fun cdv A out s H E hG hr => ?_) go
  exact ⟨_, (dss_cons (ds_if (dt_cmp op_eq os_eqS (nomark _) (de_var (pv 0)) (de_str pe_str)) (dss_one (ds_ret (de_call0 C_put_numbers_K0_numbers hG (hr.mono (by decide)) (passW (takes_of rfl rfl rfl rfl)) (fun _ _ => trivial) (dk_cons (de_var (pv 1)) dk_nil))))
 dss_nil)
 (dss_cons (ds_if (dt_cmp op_eq os_eqS (nomark _) (de_var (pv 0)) (de_str pe_str)) (dss_one (ds_ret (de_call C__law_two hG (hr.mono (by decide)) (passW (takes_of rfl rfl rfl rfl)) (fun _ _ => trivial) (du_cons (de_call C_put_range hG (hr.mono (by decide)) (passW (takes_of rfl rfl rfl rfl)) (fun _ _ => trivial) (du_cons (de_var (pv 1)) du_nil)) (du_cons (de_call0 C_put_range_K0_bounds hG (hr.mono (by decide)) (passW (takes_of rfl rfl rfl rfl)) (fun _ _ => trivial) (dk_cons (de_var (pv 1)) dk_nil)) du_nil)))))
 dss_nil)
 (dss_one (ds_ret (de_ifx (dt_cmp op_eq os_eqS (nomark _) (de_var (pv 0)) (de_str pe_str)) (de_call C_put_entries hG (hr.mono (by decide)) (passW (takes_of rfl rfl rfl rfl)) (fun _ _ => trivial) (du_cons (de_var (pv 1)) du_nil)) (de_call C_put_writes hG (hr.mono (by decide)) (passW (takes_of rfl rfl rfl rfl)) (fun _ _ => trivial) (du_cons (de_var (pv 1)) du_nil)))))))⟩

abbrev s__law_got : Stmt := top 54
abbrev N__law_got : List Str := ["_law_word", "_law_octets", "_law_at"]
theorem sc__law_got : FnScope N__law_got ["_law_word", "_law_octets", "_law_at"] (defScope s__law_got) := ⟨rfl, rfl, rfl, by decide +kernel, rfl, by decide +kernel, by decide +kernel⟩
def w__law_got : WS := (wSeq (wIfS (wTest (wOp gEqS (wVar 0) (wC (.str "numbers")))) (wRet (wCall pre__law_two post__law_two exc__law_two (wuCons (wCall pre_get_numbers post_get_numbers exc_get_numbers (wuCons (wVar 1) (wuCons (wVar 2) wuNil))) (wuCons (wCallK pre_get_numbers post_get_numbers exc_get_numbers [1, 0] 0 (List.length [("at" : Str), ("octets" : Str)]) wuNil (wuCons (wVar 2) (wuCons (wVar 1) wuNil))) wuNil))))
 wNext)
 (wSeq (wIfS (wTest (wOp gEqS (wVar 0) (wC (.str "range")))) (wRet (wCall pre_get_range post_get_range exc_get_range (wuCons (wVar 1) (wuCons (wVar 2) wuNil))))
 wNext)
 (wSeq (wIfS (wTest (wOp gEqS (wVar 0) (wC (.str "entries")))) (wRet (wCall pre__law_two post__law_two exc__law_two (wuCons (wCall pre_get_entries post_get_entries exc_get_entries (wuCons (wVar 1) (wuCons (wVar 2) wuNil))) (wuCons (wCallK pre_get_entries post_get_entries exc_get_entries [1, 0] 0 (List.length [("at" : Str), ("octets" : Str)]) wuNil (wuCons (wVar 2) (wuCons (wVar 1) wuNil))) wuNil))))
 wNext)
 (wRet (wCall pre__law_two post__law_two exc__law_two (wuCons (wCall pre_get_writes post_get_writes exc_get_writes (wuCons (wVar 1) (wuCons (wVar 2) wuNil))) (wuCons (wCallK pre_get_writes post_get_writes exc_get_writes [1, 0] 0 (List.length [("at" : Str), ("octets" : Str)]) wuNil (wuCons (wVar 2) (wuCons (wVar 1) wuNil))) wuNil)))))))
def Go__law_got : Prop := ∀ as, pre__law_got as → w__law_got (startS 3 as) ⟨fun _ => post__law_got as .none, fun d _ => post__law_got as d, fun _ => False, fun _ => False, fun c x _ => exc__law_got as c x⟩
theorem ok__law_got (go : Go__law_got) (F : FnP K "_law_got" s__law_got f fd) (T : Fx mg) (C__law_two : Ca5 P w K mg base (L2.CX P w) 1 "_law_two" ["_law_one", "_law_other"] (spU K (erL K) anyM pre__law_two post__law_two exc__law_two)) (C_get_numbers : Ca5 P w K mg base (L2.CX P w) 4 "get_numbers" ["octets", "at"] (spU K (erL K) anyM pre_get_numbers post_get_numbers exc_get_numbers)) (C_get_range : Ca5 P w K mg base (L2.CX P w) 5 "get_range" ["octets", "at"] (spU K (erL K) anyM pre_get_range post_get_range exc_get_range)) (C_get_entries : Ca5 P w K mg base (L2.CX P w) 7 "get_entries" ["octets", "at"] (spU K (erL K) anyM pre_get_entries post_get_entries exc_get_entries)) (C_get_writes : Ca5 P w K mg base (L2.CX P w) 7 "get_writes" ["octets", "at"] (spU K (erL K) anyM pre_get_writes post_get_writes exc_get_writes)) (C_get_numbers_K0_at_octets : CaN P w K mg base (L2.CX P w) 4 "get_numbers" ["octets", "at"] 0 ["at", "octets"] [1, 0] (spU K (erL K) anyM pre_get_numbers post_get_numbers exc_get_numbers)) (C_get_entries_K0_at_octets : CaN P w K mg base (L2.CX P w) 7 "get_entries" ["octets", "at"] 0 ["at", "octets"] [1, 0] (spU K (erL K) anyM pre_get_entries post_get_entries exc_get_entries)) (C_get_writes_K0_at_octets : CaN P w K mg base (L2.CX P w) 7 "get_writes" ["octets", "at"] 0 ["at", "octets"] [1, 0] (spU K (erL K) anyM pre_get_writes post_get_writes exc_get_writes)) : FnG P w K mg base (L2.CX P w) 8 f fd ["_law_word", "_law_octets", "_law_at"] (spU K (erL K) anyM pre__law_got post__law_got exc__law_got) := by
  have nd := sc__law_got.nd
  refine fn_w (ws := w__law_got) F sc__law_got len__law_got (by decide) (fun cdv A out s H E hG hr => ?_) go
  exact ⟨_, (dss_cons (ds_if (dt_cmp op_eq os_eqS (nomark _) (de_var (pv 0)) (de_str pe_str)) (dss_one (ds_ret (de_call C__law_two hG (hr.mono (by decide)) (passW (takes_of rfl rfl rfl rfl)) (fun _ _ => trivial) (du_cons (de_call C_get_numbers hG (hr.mono (by decide)) (passW (takes_of rfl rfl rfl rfl)) (fun _ _ => trivial) (du_cons (de_var (pv 1)) (du_cons (de_var (pv 2)) du_nil))) (du_cons (de_call0 C_get_numbers_K0_at_octets hG (hr.mono (by decide)) (passW (takes_of rfl rfl rfl rfl)) (fun _ _ => trivial) (dk_cons (de_var (pv 2)) (dk_cons (de_var (pv 1)) dk_nil))) du_nil)))))
 dss_nil)
 (dss_cons (ds_if (dt_cmp op_eq os_eqS (nomark _) (de_var (pv 0)) (de_str pe_str)) (dss_one (ds_ret (de_call C_get_range hG (hr.mono (by decide)) (passW (takes_of rfl rfl rfl rfl)) (fun _ _ => trivial) (du_cons (de_var (pv 1)) (du_cons (de_var (pv 2)) du_nil)))))
 dss_nil)
 (dss_cons (ds_if (dt_cmp op_eq os_eqS (nomark _) (de_var (pv 0)) (de_str pe_str)) (dss_one (ds_ret (de_call C__law_two hG (hr.mono (by decide)) (passW (takes_of rfl rfl rfl rfl)) (fun _ _ => trivial) (du_cons (de_call C_get_entries hG (hr.mono (by decide)) (passW (takes_of rfl rfl rfl rfl)) (fun _ _ => trivial) (du_cons (de_var (pv 1)) (du_cons (de_var (pv 2)) du_nil))) (du_cons (de_call0 C_get_entries_K0_at_octets hG (hr.mono (by decide)) (passW (takes_of rfl rfl rfl rfl)) (fun _ _ => trivial) (dk_cons (de_var (pv 2)) (dk_cons (de_var (pv 1)) dk_nil))) du_nil)))))
 dss_nil)
 (dss_one (ds_ret (de_call C__law_two hG (hr.mono (by decide)) (passW (takes_of rfl rfl rfl rfl)) (fun _ _ => trivial) (du_cons (de_call C_get_writes hG (hr.mono (by decide)) (passW (takes_of rfl rfl rfl rfl)) (fun _ _ => trivial) (du_cons (de_var (pv 1)) (du_cons (de_var (pv 2)) du_nil))) (du_cons (de_call0 C_get_writes_K0_at_octets hG (hr.mono (by decide)) (passW (takes_of rfl rfl rfl rfl)) (fun _ _ => trivial) (dk_cons (de_var (pv 2)) (dk_cons (de_var (pv 1)) dk_nil))) du_nil))))))))⟩

end
theorem go__law_two : Go__law_two := by
  rintro as ⟨d, rfl, hf⟩
  unfold w__law_two
  walk_at "go"
  exact ⟨hf.sh, hf.len, by have := hf.dp; omega, hf.sh, hf.len, by have := hf.dp; omega, d, rfl, rfl⟩
theorem go__law_read : Go__law_read := by
  rintro as ⟨w, xs, a, rfl, hw, ho, hl, ha⟩
  unfold w__law_read rdArgs
  rcases hw with rfl | rfl | rfl | rfl
  · walk_at "go"
    refine ⟨⟨xs, a, rfl, ho, hl, ha⟩, ?_, fun _ _ z => z⟩
    rintro d ⟨xs', a', e, rfl⟩
    obtain ⟨rfl, rfl⟩ := rd_inj e
    exact ⟨wN, xs, a, rfl, rfl⟩
  · walk_at "go"
    rw [if_neg (by decide)]
    walk_at "ds"
    refine ⟨⟨xs, a, rfl, ho, hl, ha⟩, ?_, fun _ _ z => z⟩
    rintro d ⟨xs', a', e, rfl⟩
    obtain ⟨rfl, rfl⟩ := rd_inj e
    exact ⟨wR, xs, a, rfl, rfl⟩
  · walk_at "go"
    rw [if_neg (by decide)]
    walk_at "ds"
    rw [if_neg (by decide)]
    walk_at "ds"
    refine ⟨⟨xs, a, _, rfl, ho, hl, ha⟩, ?_, fun _ _ z => z⟩
    rintro d ⟨xs', a', b, e, rfl⟩
    obtain ⟨rfl, rfl⟩ := rd_inj (b := a') (ys := xs') (congrArg (List.take 2) e)
    cases AV.d.inj (List.cons.inj (List.cons.inj (List.cons.inj e).2).2).1
    exact ⟨wE, xs, a, rfl, rfl⟩
  · walk_at "go"
    rw [if_neg (by decide)]
    walk_at "ds"
    rw [if_neg (by decide)]
    walk_at "ds"
    refine ⟨⟨xs, a, _, rfl, ho, hl, ha⟩, ?_, fun _ _ z => z⟩
    rintro d ⟨xs', a', b, e, rfl⟩
    obtain ⟨rfl, rfl⟩ := rd_inj (b := a') (ys := xs') (congrArg (List.take 2) e)
    cases AV.d.inj (List.cons.inj (List.cons.inj (List.cons.inj e).2).2).1
    exact ⟨wW, xs, a, rfl, rfl⟩
/-! what is shown -/
theorem sh_big {i : Int} (h : i.natAbs < 10 ^ 19) : (PyData.int i).shown.length ≤ 20 := by
  have e := int_text_length_le10 (k := 19) (by decide) h
  show (Str.ofString (toString i)).length ≤ 20
  rw [PySem.ofString_length]
  exact e
def Fz (d : PyData) (w k : Nat) : Prop := d.showable = true ∧ d.leavesShort 20 = true ∧ d.weight ≤ w ∧ d.depth ≤ k
def FzL (ds : List PyData) (w k : Nat) : Prop := PyData.showableAll ds = true ∧ PyData.leavesShortAll 20 ds = true ∧ PyData.weightAll ds ≤ w ∧ PyData.depthAll ds ≤ k
theorem fz_int {i : Int} (h : i.natAbs < 10 ^ 19) (k : Nat) : Fz (.int i) 64 k := by
  have l : i.natAbs.log2 ≤ 63 := log2_le (k := 63) (Nat.lt_trans h (by decide))
  refine ⟨decide_eq_true (by omega), decide_eq_true (sh_big h), ?_, Nat.zero_le _⟩
  show (if i == 0 then 0 else i.natAbs.log2 + 1) ≤ 64
  split <;> omega
theorem fz_none (k : Nat) : Fz .none 64 k := ⟨rfl, rfl, Nat.zero_le _, Nat.zero_le _⟩
theorem fz_str {z : Str} (h : PyData.strOk z = true) (hl : z.length ≤ 64) (k : Nat) : Fz (.str z) 64 k := by
  refine ⟨rfl, ?_, hl, Nat.zero_le _⟩
  show (z.cps.toList.all fun c => decide (c < 16 ^ 8)) = true
  unfold PyData.strOk at h
  rw [List.all_eq_true]
  intro c hc
  rw [← Array.all_toList, List.all_eq_true] at h
  have := h c hc
  simp only [decide_eq_true_eq] at this ⊢
  omega
theorem fzl_nil (k : Nat) : FzL [] 0 k := ⟨rfl, rfl, Nat.le_refl _, Nat.zero_le _⟩
theorem fzl_cons {d : PyData} {ds : List PyData} {w w' k : Nat} (h : Fz d w k) (g : FzL ds w' k) : FzL (d :: ds) (w + 1 + w') k := by
  obtain ⟨h1, h2, h3, h4⟩ := h
  obtain ⟨g1, g2, g3, g4⟩ := g
  refine ⟨by rw [PyData.showableAll, h1, g1]; rfl, by rw [PyData.leavesShortAll, h2, g2]; rfl, ?_, ?_⟩
  · rw [PyData.weightAll]; omega
  · rw [PyData.depthAll]; omega
theorem fz_tup {ds : List PyData} {w k : Nat} (h : FzL ds w k) : Fz (.tuple ds) w (k + 1) := by
  obtain ⟨h1, h2, h3, h4⟩ := h
  refine ⟨by rw [PyData.showable, h1], by rw [PyData.leavesShort, h2], by rw [PyData.weight]; exact h3, by rw [PyData.depth]; omega⟩
theorem fz_lst {ds : List PyData} {w k : Nat} (h : FzL ds w k) : Fz (.list ds) w (k + 1) := by
  obtain ⟨h1, h2, h3, h4⟩ := h
  refine ⟨by rw [PyData.showable, h1], by rw [PyData.leavesShort, h2], by rw [PyData.weight]; exact h3, by rw [PyData.depth]; omega⟩
theorem fzl_map {α : Type} {f : α → PyData} {w k : Nat} : ∀ {l : List α}, (∀ x ∈ l, Fz (f x) w k) → FzL (l.map f) ((w + 1) * l.length) k
  | [], _ => fzl_nil k
  | x :: l, h => by
    have := fzl_cons (h x (List.mem_cons_self ..)) (fzl_map (l := l) fun y hy => h y (List.mem_cons_of_mem _ hy))
    rw [List.map_cons, List.length_cons, Nat.mul_succ, Nat.add_comm]
    exact this
theorem Fz.fit {d : PyData} {w k : Nat} (h : Fz d w k) (hw : w ≤ 2 ^ 18) (hk : k ≤ 50) : Fit d := ⟨h.1, h.2.1, Nat.le_trans h.2.2.1 hw, Nat.le_trans h.2.2.2 hk⟩
theorem fz_flat {v : PyData} (h : FlatD v) (hl : ∀ z, v = .str z → z.length ≤ 64) (hi : ∀ i, v = .int i → i.natAbs < 10 ^ 19) (k : Nat) : Fz v 64 k := by
  cases v with
  | none => exact fz_none k
  | int i => exact fz_int (hi i rfl) k
  | str z => exact fz_str h (hl z rfl) k
  | bool b => exact h.elim
  | list _ => exact h.elim
  | tuple _ => exact h.elim
  | dict _ => exact h.elim
theorem fz_end {v : PyData} (h : OkEnd v) (g : FlatD v) (k : Nat) : Fz v 64 k := fz_flat g (fun z e => by subst e; exact Nat.le_trans h (by decide)) (fun i e => by subst e; exact h.elim) k
theorem fz_val {v : PyData} (h : OkVal v) (g : FlatD v) (k : Nat) : Fz v 64 k := fz_flat g (fun z e => by subst e; exact Nat.le_trans h (by decide)) (fun i e => by
  subst e
  have h1 : -(2 ^ 62) ≤ i ∧ i < 2 ^ 62 := h
  have p : (2 : Int) ^ 62 = 4611686018427387904 := by decide
  rw [p] at h1
  omega) k
theorem thing_fz {w : Str} {t : PyData} {e : List Int} (h : Thing w t e) : Fz t (2 ^ 17 + 2 ^ 16) 3 := by
  have p : (2 : Nat) ^ 17 = 131072 ∧ (2 : Nat) ^ 16 = 65536 ∧ (2 : Nat) ^ 10 = 1024 := by decide
  obtain ⟨p1, p2, p3⟩ := p
  rcases h with ⟨_, ns, rfl, hl, hb, _⟩ | ⟨_, lo, hi, rfl, ⟨h1, h2⟩, ⟨h3, h4⟩, _⟩ | ⟨_, ps, rfl, hl, hb, _⟩
  · have := fz_tup (fzl_map (f := PyData.int) (l := ns) (w := 64) (k := 2) fun n hn => fz_int (by have := hb n hn; omega) 2)
    exact ⟨this.1, this.2.1, Nat.le_trans this.2.2.1 (by omega), this.2.2.2⟩
  · have := fz_tup (fzl_cons (fz_end h1 h2 2) (fzl_cons (fz_end h3 h4 2) (fzl_nil 2)))
    exact ⟨this.1, this.2.1, Nat.le_trans this.2.2.1 (by omega), this.2.2.2⟩
  · have := fz_tup (fzl_map (f := prD) (l := ps) (w := 130) (k := 2) fun p hp => by
      obtain ⟨⟨g1, g2⟩, g3, g4⟩ := hb p hp
      have := fz_tup (fzl_cons (fz_str g3 (Nat.le_trans g1 (by decide)) 1) (fzl_cons (fz_val g2 g4 1) (fzl_nil 1)))
      exact this)
    exact ⟨this.1, this.2.1, Nat.le_trans this.2.2.1 (by omega), this.2.2.2⟩
end K04

namespace K04
open PySem PySem.Spec
open PyProof.Rows L2 DL DW
local macro_rules | `(tactic| walk_at "dw0") => `(tactic| simp only [DW.startS, DW.AV.sv, List.map_cons, List.map_nil, List.length_cons, List.length_nil, List.replicate_succ, List.replicate_zero, List.cons_append, List.nil_append, Nat.reduceAdd, Nat.reduceSub])
local macro_rules | `(tactic| walk_at "dw") => `(tactic| simp only [DW.wSeq, DW.wNext, DW.wIfS, DW.wRet, DW.wRetN, DW.wBreak, DW.wCont, DW.wSet, DW.wAsg, DW.wNew, DW.wNewL, DW.wNewC, DW.wExpr, DW.wApp, DW.wExt, DW.wExtA, DW.wPop, DW.wAug, DW.wRaise, DW.wVar, DW.wC, DW.wRaw, DW.wOp, DW.wUn, DW.waNil, DW.waCons, DW.wCB, DW.wTup, DW.wLst, DW.wTest, DW.wYes, DW.wAnd, DW.wOr, DW.wNot, DW.wTr, DW.gTr, DW.wAndV, DW.wOrV, DW.wNotV, DW.wIf, DW.rdq, DW.frz, DW.asg, DW.avf, DW.wuNil, DW.wuCons, DW.wCall, DW.wCallK, DW.wgName, DW.wgTup, DW.wgCons, DW.wgNil,
  DW.wParN, DW.wnNil, DW.wnD, DW.wnNew, DW.asgN, DW.gAdd, DW.gSub, DW.gMul, DW.gMod, DW.gDiv, DW.gPow, DW.gLt, DW.gLe, DW.gGt, DW.gGe, DW.gEq, DW.gNe, DW.gEqS, DW.gNeS, DW.pick, List.filterMap_cons, List.filterMap_nil, DW.gInB, DW.gIs, DW.gIsNot, DW.gIx, DW.gNeg, DW.gLen, DW.gToT, DW.gToL, DW.gInt, DW.gAbs, DW.gRepr, DW.gMin2, DW.gMax2, DW.gOrd, DW.gStr, DW.gAddI, DW.gSubI, DW.gIsB, DW.gIsntB, DW.gRep, DW.wJoin, DW.gJoin, DW.wIndex, DW.gIndex, DW.wRg1, DW.wRg2, DW.LT.mk, DW.wiSeq, DW.wiRng1, DW.wiRng2, DW.wiRngB, DW.wiEnumX, DW.wiEnum, DW.wipeS, DL.truth, DL.isNo, DW.wIsi, DW.wChain, DW.wSl, DW.gSl, DW.gRev, DW.woNone, DW.woSome, DW.wFor_eq, DW.wLc_eq, DW.wNewLc_eq, DW.one_ord, DW.one_len, DL.oD_len,
  DW.eqv_int, DW.sh_intT, true_and, List.getElem?_cons_zero, List.getElem?_cons_succ, List.set_cons_zero, List.set_cons_succ, List.length_cons, List.length_nil, if_true, if_false, decide_eq_true_eq, Bool.false_eq_true, reduceIte, List.cons_append, List.nil_append, Nat.reduceAdd, Bool.not_true, Bool.not_false])
local macro_rules | `(tactic| walk_at "ds") => `(tactic| repeat ((with_reducible refine DW.Kt_i ?_); (walk_at "dw")))
local macro_rules | `(tactic| walk_at "go") => `(tactic| ((walk_at "dw0"); (walk_at "dw"); (walk_at "ds")))
/-! ### what is read is written back -/
def sl (xs : List Int) (a q : Nat) : List Int := (xs.drop a).take (q - a)
theorem sl_app {xs : List Int} {a b c : Nat} (h : a ≤ b) (g : b ≤ c) : sl xs a c = sl xs a b ++ sl xs b c := by
  unfold sl
  have e : c - a = (b - a) + (c - b) := by omega
  rw [e, List.take_add, List.drop_drop]
  congr 3
  omega
theorem sl_one {xs : List Int} {a : Nat} {o : Int} (h : xs[a]? = some o) : sl xs a (a + 1) = [o] := by
  obtain ⟨hp, e⟩ := List.getElem?_eq_some_iff.mp h
  unfold sl
  rw [List.drop_eq_getElem_cons hp, e, Nat.add_sub_cancel_left]
  rfl
theorem sl_nil {xs : List Int} {a : Nat} : sl xs a a = [] := by unfold sl; rw [Nat.sub_self]; rfl
theorem codes_strOf {w : List Int} (h : ∀ o ∈ w, 0 ≤ o) : codes (strOf w) = w := by
  unfold codes strOf
  induction w with
  | nil => rfl
  | cons o w ih =>
    have h0 := h o (List.mem_cons_self ..)
    have := ih fun x hx => h x (List.mem_cons_of_mem _ hx)
    simp only [List.map_cons] at this ⊢
    rw [Int.toNat_of_nonneg h0]
    congr 1
theorem goNums_canon {xs : List Int} (ho : Oct xs) : ∀ {k p q : Nat} {acc : List Int} {v : PyData}, p ≤ xs.length → goNums xs k p acc = .ok v q →
    ∃ ns, v = .tuple (oD (acc ++ ns)) ∧ ns.length = k ∧ (∀ n ∈ ns, 0 ≤ n ∧ n < 2 ^ 63) ∧ sl xs p q = ns.flatMap (fun n => figsN n.toNat) ∧ p + k ≤ q ∧ q ≤ xs.length
  | 0, p, q, acc, v, hp, h => by cases h; exact ⟨[], by rw [List.append_nil], rfl, (fun _ z => absurd z List.not_mem_nil), sl_nil, Nat.le_refl _, hp⟩
  | k + 1, p, q, acc, v, hp, h => by
    unfold goNums at h
    cases e : getN xs p with
    | none => rw [e] at h; cases h
    | some r =>
      obtain ⟨n, r⟩ := r
      rw [e] at h
      obtain ⟨m, rfl, h1, h2, h3, hm⟩ := getN_some ho e
      obtain ⟨ns, rfl, g1, g2, g3, g4, g5⟩ := goNums_canon ho h2 h
      have p9' := p9
      refine ⟨(m : Int) :: ns, by rw [List.append_assoc]; rfl, by rw [List.length_cons, g1], fun n hn => ?_, ?_, by omega, g5⟩
      · rcases List.mem_cons.mp hn with hn | hn
        · rw [hn]; omega
        · exact g2 n hn
      · rw [sl_app (b := r) (by omega) (by omega), g3]
        unfold sl
        rw [h3, List.flatMap_cons]
        rfl
theorem rdNums_canon {xs : List Int} (ho : Oct xs) {a q : Nat} {v : PyData} (h : rdNums xs a = .ok v q) : ∃ ns, v = .tuple (oD ns) ∧ ns.length ≤ xs.length ∧ (∀ n ∈ ns, 0 ≤ n ∧ n < 2 ^ 63) ∧ sl xs a q = encNums ns ∧ a < q ∧ q ≤ xs.length := by
  unfold rdNums at h
  cases e : getN xs a with
  | none => rw [e] at h; cases h
  | some r =>
    obtain ⟨n, r⟩ := r
    rw [e] at h
    obtain ⟨m, rfl, h1, h2, h3, hm⟩ := getN_some ho e
    obtain ⟨ns, rfl, g1, g2, g3, g4, g5⟩ := goNums_canon ho h2 h
    have e2 : ((m : Nat) : Int).toNat = m := by omega
    rw [e2] at g1 g4
    refine ⟨ns, rfl, by omega, g2, ?_, by omega, g5⟩
    rw [sl_app (b := r) (by omega) (by omega), g3]
    unfold sl encNums
    rw [h3, g1]
theorem keyAt_canon {xs : List Int} (ho : Oct xs) {a q : Nat} {z : Str} (h : keyAt xs a = some (z, q)) : z.length ≤ 16 ∧ sl xs a q = encKey z ∧ a < q ∧ q ≤ xs.length := by
  have hle := keyAt_le h
  unfold keyAt at h
  split at h
  · rename_i c
    obtain ⟨rfl, rfl⟩ := Prod.mk.inj (Option.some.inj h)
    refine ⟨by rw [strOf_len]; exact c.2.2.1, ?_, hle⟩
    rw [sl_app (b := a + (wordAt xs a).length) (by omega) (by omega), sl_one (word_end c.1)]
    unfold sl encKey
    rw [Nat.add_sub_cancel_left, word_cut, codes_strOf (word_all ho)]
  · cases h
theorem goText_canon {xs : List Int} (ho : Oct xs) : ∀ {k p q : Nat} {w : List Int} {v : PyData}, p ≤ xs.length → goText xs k p w = .ok v q → ∃ u, v = .str (strOf (w ++ u)) ∧ u.length = k ∧ sl xs p q = u ∧ q = p + k ∧ q ≤ xs.length ∧ ∀ o ∈ u, 0 ≤ o
  | 0, p, q, w, v, hp, h => by cases h; exact ⟨[], by rw [List.append_nil], rfl, sl_nil, rfl, hp, (fun _ z => absurd z List.not_mem_nil)⟩
  | k + 1, p, q, w, v, hp, h => by
    unfold goText at h
    cases e : xs[p]? with
    | none => rw [e] at h; cases h
    | some o =>
      rw [e] at h
      obtain ⟨hp2, _⟩ := List.getElem?_eq_some_iff.mp e
      have h : (if isTextC o = true then goText xs k (p + 1) (w ++ [o]) else .bad p) = .ok v q := h
      split at h
      · obtain ⟨u, rfl, g1, g2, g3, g4, g5⟩ := goText_canon ho hp2 h
        refine ⟨o :: u, by rw [List.append_assoc]; rfl, by rw [List.length_cons, g1], ?_, by omega, g4, fun x hx => ?_⟩
        · rw [sl_app (b := p + 1) (by omega) (by omega), sl_one e, g2]; rfl
        · rcases List.mem_cons.mp hx with hx | hx
          · rw [hx]; exact (ho o (List.mem_of_getElem? e)).1
          · exact g5 x hx
      · cases h
theorem rdText_canon {xs : List Int} (ho : Oct xs) {a q : Nat} {v : PyData} (h : rdText xs a = .ok v q) : ∃ z, v = .str z ∧ z.length ≤ 32 ∧ sl xs a q = encText z ∧ a < q ∧ q ≤ xs.length := by
  unfold rdText at h
  cases e : getN xs a with
  | none => rw [e] at h; cases h
  | some r =>
    obtain ⟨n, r⟩ := r
    rw [e] at h
    obtain ⟨m, rfl, h1, h2, h3, hm⟩ := getN_some ho e
    dsimp only at h
    split at h
    · cases h
    · rename_i c
      obtain ⟨u, rfl, g1, g2, g3, g4, g5⟩ := goText_canon ho h2 h
      have e2 : ((m : Nat) : Int).toNat = m := by omega
      rw [e2] at g1 g3
      refine ⟨strOf ([] ++ u), rfl, by rw [strOf_len, List.nil_append]; omega, ?_, by omega, g4⟩
      rw [sl_app (b := r) (by omega) (by omega), g2]
      unfold sl encText
      rw [h3, strOf_len, List.nil_append, codes_strOf g5, g1]
theorem zig_zag (m : Nat) : zig (zag (m : Int)) = m := by
  unfold zig zag
  split <;> split <;> omega
theorem rdVal_canon {xs : List Int} (ho : Oct xs) {a q : Nat} {v : PyData} (h : rdVal xs a = .ok v q) : OkVal v ∧ sl xs a q = encVal v ∧ a < q ∧ q ≤ xs.length := by
  have hle := rdVal_le ho h
  unfold rdVal at h
  cases e : xs[a]? with
  | none => rw [e] at h; cases h
  | some o =>
    rw [e] at h
    have oo := ho o (List.mem_of_getElem? e)
    dsimp only at h
    split at h
    · cases h
    · split at h
      · rename_i c
        cases h
        exact ⟨trivial, by rw [sl_one e, c]; rfl, hle⟩
      · split at h
        · rename_i c
          obtain ⟨z, rfl, g1, g2, g3, g4⟩ := rdText_canon ho h
          exact ⟨g1, by rw [sl_app (b := a + 1) (by omega) (by omega), sl_one e, g2, c]; rfl, hle⟩
        · rename_i c1 c2 c3
          cases e2 : getN xs (a + 1) with
          | none => rw [e2] at h; cases h
          | some r =>
            obtain ⟨n, r⟩ := r
            rw [e2] at h
            obtain ⟨m, rfl, h1, h2, h3, hm⟩ := getN_some ho e2
            dsimp only at h
            split at h
            · cases h
            · rename_i c4
              cases h
              have p : (2 : Int) ^ 62 = 4611686018427387904 := by decide
              refine ⟨⟨by rw [p]; omega, by rw [p]; omega⟩, ?_, hle⟩
              have o1 : o = 1 := by omega
              rw [sl_app (b := a + 1) (by omega) (by omega), sl_one e, o1]
              unfold sl
              rw [h3]
              show _ = 1 :: figsN (zig (zag (m : Int)))
              rw [zig_zag]
              rfl
theorem goPairs_canon {xs : List Int} (ho : Oct xs) {er : Bool} : ∀ {k p q : Nat} {ps : List (Str × PyData)} {v : PyData}, p ≤ xs.length → goPairs xs er k p ps = .ok v q →
    ∃ qs, v = pairsD (ps ++ qs) ∧ qs.length = k ∧ (∀ x ∈ qs, (x.1.length ≤ 16 ∧ OkVal x.2) ∧ FlatP x) ∧ sl xs p q = qs.flatMap (fun p => encKey p.1 ++ encVal p.2) ∧ p + k ≤ q ∧ q ≤ xs.length
  | 0, p, q, ps, v, hp, h => by cases h; exact ⟨[], by rw [List.append_nil], rfl, (fun _ z => absurd z List.not_mem_nil), sl_nil, Nat.le_refl _, hp⟩
  | k + 1, p, q, ps, v, hp, h => by
    unfold goPairs at h
    cases e : keyAt xs p with
    | none => rw [e] at h; cases h
    | some r =>
      obtain ⟨z, r⟩ := r
      rw [e] at h
      obtain ⟨k1, k2, k3, k4⟩ := keyAt_canon ho e
      dsimp only at h
      split at h
      · cases h
      · cases e2 : rdVal xs r with
        | bad r2 => rw [e2] at h; cases h
        | ok x r2 =>
          rw [e2] at h
          obtain ⟨v1, v2, v3, v4⟩ := rdVal_canon ho e2
          dsimp only at h
          split at h
          · cases h
          · obtain ⟨qs, rfl, g1, g2, g3, g4, g5⟩ := goPairs_canon ho v4 h
            refine ⟨(z, x) :: qs, by rw [List.append_assoc]; rfl, by rw [List.length_cons, g1], fun y hy => ?_, ?_, by omega, g5⟩
            · rcases List.mem_cons.mp hy with hy | hy
              · rw [hy]; exact ⟨⟨k1, v1⟩, keyAt_ok ho e, rdVal_ok ho e2⟩
              · exact g2 y hy
            · rw [sl_app (b := r2) (by omega) (by omega), sl_app (b := r) (by omega) (by omega), k2, v2, g3, List.flatMap_cons]
theorem rdPairs_canon {xs : List Int} (ho : Oct xs) {er : Bool} {a q : Nat} {v : PyData} (h : rdPairs er xs a = .ok v q) : ∃ ps, v = pairsD ps ∧ ps.length ≤ xs.length ∧ (∀ x ∈ ps, (x.1.length ≤ 16 ∧ OkVal x.2) ∧ FlatP x) ∧ sl xs a q = encPairs ps ∧ a < q ∧ q ≤ xs.length := by
  unfold rdPairs at h
  cases e : getN xs a with
  | none => rw [e] at h; cases h
  | some r =>
    obtain ⟨n, r⟩ := r
    rw [e] at h
    obtain ⟨m, rfl, h1, h2, h3, hm⟩ := getN_some ho e
    obtain ⟨ps, rfl, g1, g2, g3, g4, g5⟩ := goPairs_canon ho h2 h
    have e2 : ((m : Nat) : Int).toNat = m := by omega
    rw [e2] at g1 g4
    refine ⟨ps, rfl, by omega, g2, ?_, by omega, g5⟩
    rw [sl_app (b := r) (by omega) (by omega), g3]
    unfold sl encPairs
    rw [h3, g1]
theorem rdEnd_canon {xs : List Int} (ho : Oct xs) {a q : Nat} {v : PyData} (h : rdEnd xs a = .ok v q) : (OkEnd v ∧ FlatD v) ∧ sl xs a q = encEnd v ∧ a < q ∧ q ≤ xs.length := by
  have hle := rdEnd_le h
  unfold rdEnd at h
  cases e : xs[a]? with
  | none => rw [e] at h; cases h
  | some o =>
    rw [e] at h
    have oo := ho o (List.mem_of_getElem? e)
    dsimp only at h
    split at h
    · cases h
    · split at h
      · rename_i c
        cases h
        exact ⟨⟨trivial, trivial⟩, by rw [sl_one e, c]; rfl, hle⟩
      · obtain ⟨z, rfl, e2⟩ := rdKey_str h
        obtain ⟨k1, k2, k3, k4⟩ := keyAt_canon ho e2
        have o1 : o = 1 := by omega
        exact ⟨⟨k1, keyAt_ok ho e2⟩, by rw [sl_app (b := a + 1) (by omega) (by omega), sl_one e, k2, o1]; rfl, hle⟩
theorem rdRange_canon {xs : List Int} (ho : Oct xs) {a q : Nat} {v : PyData} (h : rdRange xs a = .ok v q) : ∃ lo hi, v = .tuple [lo, hi] ∧ (OkEnd lo ∧ FlatD lo) ∧ (OkEnd hi ∧ FlatD hi) ∧ sl xs a q = encRange lo hi ∧ a < q ∧ q ≤ xs.length := by
  unfold rdRange at h
  cases e : rdEnd xs a with
  | bad p => rw [e] at h; cases h
  | ok lo r =>
    rw [e] at h
    dsimp only at h
    obtain ⟨l1, l2, l3, l4⟩ := rdEnd_canon ho e
    cases e2 : rdEnd xs r with
    | bad p => rw [e2] at h; cases h
    | ok hi r2 =>
      rw [e2] at h
      obtain ⟨m1, m2, m3, m4⟩ := rdEnd_canon ho e2
      cases h
      exact ⟨lo, hi, rfl, l1, m1, by rw [sl_app (b := r) (by omega) (by omega), l2, m2]; rfl, by omega, m4⟩
theorem rdW_canon {xs : List Int} (ho : Oct xs) (hl : xs.length < 2 ^ 10) {w : Str} (hw : Word w) {a q : Nat} {v : PyData} (h : rdW w xs a = .ok v q) : Thing w v (sl xs a q) ∧ a < q ∧ q ≤ xs.length := by
  unfold rdW at h
  split at h
  · rename_i c
    obtain ⟨ns, rfl, h1, h2, h3, h4, h5⟩ := rdNums_canon ho h
    exact ⟨.inl ⟨c, ns, rfl, by omega, h2, h3⟩, h4, h5⟩
  · split at h
    · rename_i c
      obtain ⟨lo, hi, rfl, h1, h2, h3, h4, h5⟩ := rdRange_canon ho h
      exact ⟨.inr (.inl ⟨c, lo, hi, rfl, h1, h2, h3⟩), h4, h5⟩
    · rename_i c1 c2
      obtain ⟨ps, rfl, h1, h2, h3, h4, h5⟩ := rdPairs_canon ho h
      refine ⟨.inr (.inr ⟨?_, ps, rfl, by omega, h2, h3⟩), h4, h5⟩
      rcases hw with hw | hw | hw | hw
      · exact absurd hw c1
      · exact absurd hw c2
      · exact .inl hw
      · exact .inr hw
end K04

namespace K04
open PySem PySem.Spec
open PyProof.Rows L2 DL DW
local macro_rules | `(tactic| walk_at "dw0") => `(tactic| simp only [DW.startS, DW.AV.sv, List.map_cons, List.map_nil, List.length_cons, List.length_nil, List.replicate_succ, List.replicate_zero, List.cons_append, List.nil_append, Nat.reduceAdd, Nat.reduceSub])
local macro_rules | `(tactic| walk_at "dw") => `(tactic| simp only [DW.wSeq, DW.wNext, DW.wIfS, DW.wRet, DW.wRetN, DW.wBreak, DW.wCont, DW.wSet, DW.wAsg, DW.wNew, DW.wNewL, DW.wNewC, DW.wExpr, DW.wApp, DW.wExt, DW.wExtA, DW.wPop, DW.wAug, DW.wRaise, DW.wVar, DW.wC, DW.wRaw, DW.wOp, DW.wUn, DW.waNil, DW.waCons, DW.wCB, DW.wTup, DW.wLst, DW.wTest, DW.wYes, DW.wAnd, DW.wOr, DW.wNot, DW.wTr, DW.gTr, DW.wAndV, DW.wOrV, DW.wNotV, DW.wIf, DW.rdq, DW.frz, DW.asg, DW.avf, DW.wuNil, DW.wuCons, DW.wCall, DW.wCallK, DW.wgName, DW.wgTup, DW.wgCons, DW.wgNil,
  DW.wParN, DW.wnNil, DW.wnD, DW.wnNew, DW.asgN, DW.gAdd, DW.gSub, DW.gMul, DW.gMod, DW.gDiv, DW.gPow, DW.gLt, DW.gLe, DW.gGt, DW.gGe, DW.gEq, DW.gNe, DW.gEqS, DW.gNeS, DW.pick, List.filterMap_cons, List.filterMap_nil, DW.gInB, DW.gIs, DW.gIsNot, DW.gIx, DW.gNeg, DW.gLen, DW.gToT, DW.gToL, DW.gInt, DW.gAbs, DW.gRepr, DW.gMin2, DW.gMax2, DW.gOrd, DW.gStr, DW.gAddI, DW.gSubI, DW.gIsB, DW.gIsntB, DW.gRep, DW.wJoin, DW.gJoin, DW.wIndex, DW.gIndex, DW.wRg1, DW.wRg2, DW.LT.mk, DW.wiSeq, DW.wiRng1, DW.wiRng2, DW.wiRngB, DW.wiEnumX, DW.wiEnum, DW.wipeS, DL.truth, DL.isNo, DW.wIsi, DW.wChain, DW.wSl, DW.gSl, DW.gRev, DW.woNone, DW.woSome, DW.wFor_eq, DW.wLc_eq, DW.wNewLc_eq, DW.one_ord, DW.one_len, DL.oD_len,
  DW.eqv_int, DW.sh_intT, true_and, List.getElem?_cons_zero, List.getElem?_cons_succ, List.set_cons_zero, List.set_cons_succ, List.length_cons, List.length_nil, if_true, if_false, decide_eq_true_eq, Bool.false_eq_true, reduceIte, List.cons_append, List.nil_append, Nat.reduceAdd, Bool.not_true, Bool.not_false])
local macro_rules | `(tactic| walk_at "ds") => `(tactic| repeat ((with_reducible refine DW.Kt_i ?_); (walk_at "dw")))
local macro_rules | `(tactic| walk_at "go") => `(tactic| ((walk_at "dw0"); (walk_at "dw"); (walk_at "ds")))
theorem pairsD_inj {ps qs : List (Str × PyData)} (h : pairsD ps = pairsD qs) : ps = qs := by
  have h2 := PyData.tuple.inj h
  refine (List.map_inj_right (f := prD) (fun p q e => ?_)).mp h2
  obtain ⟨e1, e2⟩ := List.cons.inj (PyData.tuple.inj e)
  exact Prod.ext (PyData.str.inj e1) (List.cons.inj e2).1
theorem Thing.det {w : Str} {t : PyData} {e e' : List Int} (h : Thing w t e) (g : Thing w t e') : e = e' := by
  have d1 : wN ≠ wR := by decide
  have d2 : wN ≠ wE := by decide
  have d3 : wN ≠ wW := by decide
  have d4 : wR ≠ wE := by decide
  have d5 : wR ≠ wW := by decide
  rcases h with ⟨rfl, ns, rfl, _, _, rfl⟩ | ⟨rfl, lo, hi, rfl, _, _, rfl⟩ | ⟨hw, ps, rfl, _, _, rfl⟩
  · rcases g with ⟨_, ns', e1, _, _, rfl⟩ | ⟨c, _⟩ | ⟨c, _⟩
    · rw [oD_inj (PyData.tuple.inj e1)]
    · exact absurd c d1
    · rcases c with c | c
      · exact absurd c d2
      · exact absurd c d3
  · rcases g with ⟨c, _⟩ | ⟨_, lo', hi', e1, _, _, rfl⟩ | ⟨c, _⟩
    · exact absurd c.symm d1
    · obtain ⟨e2, e3⟩ := List.cons.inj (PyData.tuple.inj e1)
      rw [e2, (List.cons.inj e3).1]
    · rcases c with c | c
      · exact absurd c d4
      · exact absurd c d5
  · rcases g with ⟨c, _⟩ | ⟨c, _⟩ | ⟨_, ps', e1, _, _, rfl⟩
    · subst c
      rcases hw with c | c
      · exact absurd c d2
      · exact absurd c d3
    · subst c
      rcases hw with c | c
      · exact absurd c d4
      · exact absurd c d5
    · rw [pairsD_inj e1]
theorem encEnd_oct {v : PyData} (h : FlatD v) : ∀ x ∈ encEnd v, 0 ≤ x ∧ x < 0x110000 := by
  intro x hx
  cases v with
  | str z =>
    have h : PyData.strOk z = true := h
    unfold PyData.strOk at h
    rw [← Array.all_toList, List.all_eq_true] at h
    rcases List.mem_cons.mp hx with hx | hx
    · rw [hx]; decide
    · rcases List.mem_append.mp hx with hx | hx
      · unfold codes at hx
        obtain ⟨c, hc, rfl⟩ := List.mem_map.mp hx
        have := h c hc
        simp only [decide_eq_true_eq] at this
        omega
      · rw [List.mem_singleton.mp hx]; decide
  | _ => rw [List.mem_singleton.mp hx]; decide
theorem fit_range {lo hi : PyData} (h1 : OkEnd lo ∧ FlatD lo) (h2 : OkEnd hi ∧ FlatD hi) : Fit (.tuple (oD (encRange lo hi))) := by
  have l1 := encEnd_len h1.1
  have l2 := encEnd_len h2.1
  have := fz_tup (fzl_map (f := PyData.int) (l := encRange lo hi) (w := 64) (k := 2) fun n hn => fz_int (by
    have : 0 ≤ n ∧ n < 0x110000 := by
      rcases List.mem_append.mp hn with hn | hn
      · exact encEnd_oct h1.2 n hn
      · exact encEnd_oct h2.2 n hn
    omega) 2)
  refine this.fit ?_ (by decide)
  have : (encRange lo hi).length ≤ 36 := by unfold encRange; rw [List.length_append]; omega
  have p : (2 : Nat) ^ 18 = 262144 := by decide
  omega
theorem go__law_put : Go__law_put := by
  rintro as ⟨w, t, e, rfl, hT⟩
  have fin : ∀ e', Thing w t e → e' = e → post__law_put [.d (.str w), .d t] (.tuple (oD e')) := fun e' h1 h2 w' t' e'' he h3 => by
    subst h2
    obtain ⟨a1, a2⟩ := List.cons.inj he
    cases PyData.str.inj (AV.d.inj a1)
    cases AV.d.inj (List.cons.inj a2).1
    rw [h1.det h3]
  unfold w__law_put
  have hT0 := hT
  rcases hT with ⟨rfl, ns, rfl, hl, hb, rfl⟩ | ⟨rfl, lo, hi, rfl, h1, h2, rfl⟩ | ⟨hw, ps, rfl, hl, hb, rfl⟩
  · walk_at "go"
    refine ⟨⟨ns, rfl, by omega, hb⟩, ?_, fun _ _ z => z.elim⟩
    rintro d ⟨ns', e1, rfl⟩
    have := oD_inj (PyData.tuple.inj (one_arg_d e1))
    subst this
    exact fin _ hT0 rfl
  · walk_at "go"
    rw [if_neg (by decide)]
    walk_at "ds"
    refine ⟨⟨lo, hi, rfl, h1.1, h2.1⟩, ?_, fun _ _ z => z.elim⟩
    rintro d ⟨lo', hi', e1, rfl⟩
    cases one_arg_d e1
    refine ⟨⟨lo, hi, rfl, h1.1, h2.1⟩, ?_, fun _ _ z => z.elim⟩
    rintro d ⟨lo', hi', e1, rfl⟩
    cases one_arg_d e1
    refine ⟨⟨_, rfl, fit_range h1 h2⟩, ?_, fun _ _ z => z.elim⟩
    rintro d ⟨x, e1, rfl⟩
    cases (AV.d.inj (List.cons.inj e1).1)
    exact fin _ hT0 rfl
  · rcases hw with rfl | rfl
    · walk_at "go"
      rw [if_neg (by decide)]
      walk_at "ds"
      rw [if_neg (by decide)]
      walk_at "ds"
      refine ⟨⟨ps, rfl, by omega, fun p hp => (hb p hp).1⟩, ?_, fun _ _ z => z.elim⟩
      rintro d ⟨ps', e1, rfl⟩
      have := pairsD_inj (one_arg_d e1)
      subst this
      exact fin _ hT0 rfl
    · walk_at "go"
      rw [if_neg (by decide)]
      walk_at "ds"
      rw [if_neg (by decide)]
      walk_at "ds"
      refine ⟨⟨ps, rfl, by omega, fun p hp => (hb p hp).1⟩, ?_, fun _ _ z => z.elim⟩
      rintro d ⟨ps', e1, rfl⟩
      have := pairsD_inj (one_arg_d e1)
      subst this
      exact fin _ hT0 rfl
theorem fit_got {w : Str} {xs : List Int} {a q : Nat} {v : PyData} (hw : Word w) (ho : Oct xs) (hl : xs.length < 2 ^ 10) (h : rdW w xs a = .ok v q) : Fit (pairD v q) := by
  obtain ⟨hT, h1, h2⟩ := rdW_canon ho hl hw h
  have := fz_tup (fzl_cons (thing_fz hT) (fzl_cons (fz_int (i := (q : Nat)) (by omega) 3) (fzl_nil 3)))
  refine this.fit ?_ (by decide)
  have p : (2 : Nat) ^ 17 = 131072 ∧ (2 : Nat) ^ 16 = 65536 ∧ (2 : Nat) ^ 18 = 262144 := by decide
  omega
theorem go__law_got : Go__law_got := by
  rintro as ⟨w, xs, a, rfl, hw, ho, hl, ha⟩
  have hl2 : xs.length < 2 ^ 20 := by omega
  have fit := @fit_got w xs a
  unfold w__law_got rdArgs
  rcases hw with rfl | rfl | rfl | rfl
  · walk_at "go"
    refine ⟨⟨xs, a, rfl, ho, hl2, ha⟩, ?_, ?_⟩
    · rintro d ⟨xs', a', v, q, e, hg, rfl⟩
      obtain ⟨rfl, rfl⟩ := rd_inj e
      refine ⟨⟨xs, a, rfl, ho, hl2, ha⟩, ?_, ?_⟩
      · rintro d ⟨xs', a', v', q', e, hg', rfl⟩
        obtain ⟨rfl, rfl⟩ := rd_inj e
        rw [hg] at hg'
        cases hg'
        refine ⟨⟨_, rfl, fit (.inl rfl) ho hl hg⟩, ?_, fun _ _ z => z.elim⟩
        rintro d ⟨x, e1, rfl⟩
        cases (AV.d.inj (List.cons.inj e1).1)
        exact ⟨wN, xs, a, v, q, rfl, hg, rfl⟩
      · rintro c x ⟨xs', a', p, e, hg', rfl, rfl⟩
        obtain ⟨rfl, rfl⟩ := rd_inj e
        exact ⟨wN, xs, a, p, rfl, hg', rfl, rfl⟩
    · rintro c x ⟨xs', a', p, e, hg', rfl, rfl⟩
      obtain ⟨rfl, rfl⟩ := rd_inj e
      exact ⟨wN, xs, a, p, rfl, hg', rfl, rfl⟩
  · walk_at "go"
    rw [if_neg (by decide)]
    walk_at "ds"
    refine ⟨⟨xs, a, rfl, ho, hl2, ha⟩, ?_, ?_⟩
    · rintro d ⟨xs', a', v, q, e, hg, rfl⟩
      obtain ⟨rfl, rfl⟩ := rd_inj e
      exact ⟨wR, xs, a, v, q, rfl, hg, rfl⟩
    · rintro c x ⟨xs', a', p, e, hg', rfl, rfl⟩
      obtain ⟨rfl, rfl⟩ := rd_inj e
      exact ⟨wR, xs, a, p, rfl, hg', rfl, rfl⟩
  · walk_at "go"
    rw [if_neg (by decide)]
    walk_at "ds"
    rw [if_neg (by decide)]
    walk_at "ds"
    refine ⟨⟨xs, a, rfl, ho, hl2, ha⟩, ?_, ?_⟩
    · rintro d ⟨xs', a', v, q, e, hg, rfl⟩
      obtain ⟨rfl, rfl⟩ := rd_inj e
      refine ⟨⟨xs, a, rfl, ho, hl2, ha⟩, ?_, ?_⟩
      · rintro d ⟨xs', a', v', q', e, hg', rfl⟩
        obtain ⟨rfl, rfl⟩ := rd_inj e
        rw [hg] at hg'
        cases hg'
        refine ⟨⟨_, rfl, fit (.inr (.inr (.inl rfl))) ho hl hg⟩, ?_, fun _ _ z => z.elim⟩
        rintro d ⟨x, e1, rfl⟩
        cases (AV.d.inj (List.cons.inj e1).1)
        exact ⟨wE, xs, a, v, q, rfl, hg, rfl⟩
      · rintro c x ⟨xs', a', p, e, hg', rfl, rfl⟩
        obtain ⟨rfl, rfl⟩ := rd_inj e
        exact ⟨wE, xs, a, p, rfl, hg', rfl, rfl⟩
    · rintro c x ⟨xs', a', p, e, hg', rfl, rfl⟩
      obtain ⟨rfl, rfl⟩ := rd_inj e
      exact ⟨wE, xs, a, p, rfl, hg', rfl, rfl⟩
  · walk_at "go"
    rw [if_neg (by decide)]
    walk_at "ds"
    rw [if_neg (by decide)]
    walk_at "ds"
    refine ⟨⟨xs, a, rfl, ho, hl2, ha⟩, ?_, ?_⟩
    · rintro d ⟨xs', a', v, q, e, hg, rfl⟩
      obtain ⟨rfl, rfl⟩ := rd_inj e
      walk_at "dw"
      refine ⟨⟨xs, a, rfl, ho, hl2, ha⟩, ?_, ?_⟩
      · rintro d ⟨xs', a', v', q', e, hg', rfl⟩
        obtain ⟨rfl, rfl⟩ := rd_inj e
        rw [hg] at hg'
        cases hg'
        refine ⟨⟨_, rfl, fit (.inr (.inr (.inr rfl))) ho hl hg⟩, ?_, fun _ _ z => z.elim⟩
        rintro d ⟨x, e1, rfl⟩
        cases (AV.d.inj (List.cons.inj e1).1)
        exact ⟨wW, xs, a, v, q, rfl, hg, rfl⟩
      · rintro c x ⟨xs', a', p, e, hg', rfl, rfl⟩
        obtain ⟨rfl, rfl⟩ := rd_inj e
        exact ⟨wW, xs, a, p, rfl, hg', rfl, rfl⟩
    · rintro c x ⟨xs', a', p, e, hg', rfl, rfl⟩
      obtain ⟨rfl, rfl⟩ := rd_inj e
      exact ⟨wW, xs, a, p, rfl, hg', rfl, rfl⟩
end K04

namespace K04
open PySem PySem.Spec
open PyProof.Rows L2 DL DW
local macro_rules | `(tactic| walk_at "dw0") => `(tactic| simp only [DW.startS, DW.AV.sv, List.map_cons, List.map_nil, List.length_cons, List.length_nil, List.replicate_succ, List.replicate_zero, List.cons_append, List.nil_append, Nat.reduceAdd, Nat.reduceSub])
local macro_rules | `(tactic| walk_at "dw") => `(tactic| simp only [DW.wSeq, DW.wNext, DW.wIfS, DW.wRet, DW.wRetN, DW.wBreak, DW.wCont, DW.wSet, DW.wAsg, DW.wNew, DW.wNewL, DW.wNewC, DW.wExpr, DW.wApp, DW.wExt, DW.wExtA, DW.wPop, DW.wAug, DW.wRaise, DW.wVar, DW.wC, DW.wRaw, DW.wOp, DW.wUn, DW.waNil, DW.waCons, DW.wCB, DW.wTup, DW.wLst, DW.wTest, DW.wYes, DW.wAnd, DW.wOr, DW.wNot, DW.wTr, DW.gTr, DW.wAndV, DW.wOrV, DW.wNotV, DW.wIf, DW.rdq, DW.frz, DW.asg, DW.avf, DW.wuNil, DW.wuCons, DW.wCall, DW.wCallK, DW.wgName, DW.wgTup, DW.wgCons, DW.wgNil,
  DW.wParN, DW.wnNil, DW.wnD, DW.wnNew, DW.asgN, DW.gAdd, DW.gSub, DW.gMul, DW.gMod, DW.gDiv, DW.gPow, DW.gLt, DW.gLe, DW.gGt, DW.gGe, DW.gEq, DW.gNe, DW.gEqS, DW.gNeS, DW.pick, List.filterMap_cons, List.filterMap_nil, DW.gInB, DW.gIs, DW.gIsNot, DW.gIx, DW.gNeg, DW.gLen, DW.gToT, DW.gToL, DW.gInt, DW.gAbs, DW.gRepr, DW.gMin2, DW.gMax2, DW.gOrd, DW.gStr, DW.gAddI, DW.gSubI, DW.gIsB, DW.gIsntB, DW.gRep, DW.gSorted, DW.wJoin, DW.gJoin, DW.wIndex, DW.gIndex, DW.wRg1, DW.wRg2, DW.LT.mk, DW.wiSeq, DW.wiRng1, DW.wiRng2, DW.wiRngB, DW.wiEnumX, DW.wiEnum, DW.wipeS, DL.truth, DL.isNo, DW.wIsi, DW.wChain, DW.wSl, DW.gSl, DW.gRev, DW.woNone, DW.woSome, DW.wFor_eq, DW.wLc_eq, DW.wNewLc_eq, DW.one_ord, DW.one_len, DL.oD_len,
  DW.eqv_int, DW.sh_intT, true_and, List.getElem?_cons_zero, List.getElem?_cons_succ, List.set_cons_zero, List.set_cons_succ, List.length_cons, List.length_nil, if_true, if_false, decide_eq_true_eq, Bool.false_eq_true, reduceIte, List.cons_append, List.nil_append, Nat.reduceAdd, Bool.not_true, Bool.not_false])
local macro_rules | `(tactic| walk_at "ds") => `(tactic| repeat ((with_reducible refine DW.Kt_i ?_); (walk_at "dw")))
local macro_rules | `(tactic| walk_at "go") => `(tactic| ((walk_at "dw0"); (walk_at "dw"); (walk_at "ds")))
/-! ### the draws -/
theorem fng_conv {P : Program} {w : World} {K : PySem.W.Frag} {mg : Str → Option Value} {base : Heap} {CX : CXT} {k : Nat} {f : Addr} {fd : FuncData} {ps : List Str} {sp sp' : Sp} (F : FnG P w K mg base CX k f fd ps sp) (h : ∀ vs H Q E, sp' vs H Q E → sp vs H Q E) : FnG P w K mg base CX k f fd ps sp' :=
  ⟨fun vs H Q E z => F.siz vs H Q E (h vs H Q E z), fun A out s H ar us vs Q E g hr e0 bd r hs => F.go A out s H ar us vs Q E g hr e0 bd r (h vs H Q E hs)⟩
def pre__law_draw (as : List AV) : Prop := ∃ n : Int, as = [.drw, .d (.int n)] ∧ 0 < n ∧ n < 2 ^ 60
def post__law_draw (as : List AV) (d : PyData) : Prop := ∃ n i : Int, as = [.drw, .d (.int n)] ∧ d = .int i ∧ 0 ≤ i ∧ i < n
abbrev exc__law_draw := noE
abbrev s__law_draw : Stmt := top 38
abbrev N__law_draw : List Str := ["_law_heap_here", "_law_many", "_law_rest"]
theorem sc__law_draw : FnScope N__law_draw ["_law_heap_here", "_law_many"] (defScope s__law_draw) := ⟨rfl, rfl, rfl, by decide +kernel, rfl, by decide +kernel, by decide +kernel⟩
theorem drw_inv {K : PySem.W.Frag} {er : Ers} {pre : List AV → Prop} {post : List AV → PyData → Prop} {exc : List AV → Str → PyData → Prop} (hp : ∀ as, pre as → ∃ n : Int, as = [.drw, .d (.int n)] ∧ 0 < n ∧ n < 2 ^ 60) (hq : ∀ (n i : Int), 0 ≤ i → i < n → post [.drw, .d (.int n)] (.int i)) {vs : List V} {H : Hp} {Q : VK} {E : XK} (h : spU K er anyM pre post exc vs H Q E) : spDr K vs H Q E := by
  obtain ⟨M, J, as, _, wf, av, p, q, _⟩ := h
  obtain ⟨n, rfl, n0, n1⟩ := hp as p
  cases av with
  | cons a1 b1 =>
    cases b1 with
    | cons a2 b2 =>
      cases b2
      obtain ⟨h, g, rfl, hd⟩ := a1
      exact ⟨M, h, g, J, _, [.int n], rfl, hd, wf, .cons a2 .nil, ⟨n, rfl, n0, by omega⟩, fun v d J' H' w' t pd ad => by
        obtain ⟨i, rfl, i0, i1⟩ := pd n rfl
        exact q v (.int i) J' H' t (hq n i i0 i1) ad⟩
section
variable {P : Program} {w : World} {K : PySem.W.Frag} {mg : Str → Option Value} {base : Heap} {f : Addr} {fd : FuncData}
theorem ok__law_draw (F : FnP K "_law_draw" s__law_draw f fd) (T : Fx mg) : FnG P w K mg base (L2.CX P w) 1 f fd ["_law_heap_here", "_law_many"] (spU K (erL K) anyM pre__law_draw post__law_draw exc__law_draw) := by
  have nd := sc__law_draw.nd
  refine fng_conv (sp := spDr K) ?_ (fun vs H Q E h => drw_inv (fun as h => h) (fun n i h1 h2 => ⟨n, i, rfl, rfl, h1, h2⟩) h)
  refine fn_g F sc__law_draw (fun vs H Q E h => ?_) (fun cdv A outer s H vs Q E hG hr h => ?_)
  · obtain ⟨ds, ⟨n, rfl, _⟩, e⟩ := spH_len h
    exact e
  have hu := hr.units
  refine ⟨_, (pss_cons (ps_while (passes_of rfl) (PW.pt (pw_and (pt_cmpR (op_neD hu) (xIx (pv 0) pe_int) (pe_lst pa_nil) (nomark _)) (pw_and1 (pt_cmpR (op_eqD hu) (xIx (xIx (pv 0) pe_int) (pe_un un_neg pe_int)) pe_int (nomark _)))))
 (pss_one (ps_expr (pe_bm0 PySem.F.plainAttrs_list PySem.F.slot_list_pop PySem.F.type_list_pop mt_pop (xIx (pv 0) pe_int)))))
 (pss_cons (ps_if (pt_cmpR (op_neD hu) (xIx (pv 0) pe_int) (pe_lst pa_nil) (nomark _)) (pss_cons (ps_set (i := 2) nd rfl (Or.inl rfl) (xT (rInt1) cl_int T.b_int (pa_cons (pe_bm0 PySem.F.plainAttrs_list PySem.F.slot_list_pop PySem.F.type_list_pop mt_pop (xIx (pv 0) pe_int)) pa_nil)))
 (pss_cons (ps_expr (pe_bm PySem.F.plainAttrs_list PySem.F.slot_list_append PySem.F.type_list_append mt_append (xIx (pv 0) pe_int) (pa_cons (pe_op op_fdivW (pv 2) (pv 1)) pa_nil)))
 (pss_one (ps_ret (pe_op op_mod (pv 2) (pv 1))))))
 pss_nil)
 (pss_cons (ps_asg (pe_op op_mod (xT (rInt1) cl_int T.b_int (pa_cons (pe_op op_plus (pe_op op_mulW (xIx (pv 0) pe_int) pe_int) pe_int) pa_nil)) pe_int) (pg_sub (pv 0) pe_int set_list))
 (pss_one (ps_ret (pe_op op_mod (xT (rInt1) cl_int T.b_int (pa_cons (pe_op op_fdivW (xIx (pv 0) pe_int) pe_int) pa_nil)) (pv 1))))))), ?_⟩
  have hs : start N__law_draw vs = vs.map some ++ [none] := by
    obtain ⟨ds, ⟨n, rfl, _⟩, e⟩ := spH_len h
    match vs, e with
    | [_, _], _ => rfl
  rw [hs]
  exact rd_drawH (by omega) h
end
def PickX (x : PyData) : Prop := (∃ l, x = .list l ∧ l ≠ [] ∧ l.length < 2 ^ 20) ∨ ∃ z : Str, x = .str z ∧ z.length ≠ 0 ∧ z.length < 2 ^ 20
def pre__law_pick (as : List AV) : Prop := ∃ x, as = [.drw, .d x] ∧ PickX x
def post__law_pick (as : List AV) (d : PyData) : Prop := ∃ x, as = [.drw, .d x] ∧ ((∃ l, x = .list l ∧ d ∈ l) ∨ ∃ (z : Str) (c : Nat), x = .str z ∧ c ∈ z.cps.toList ∧ d = .str ⟨#[c]⟩)
abbrev exc__law_pick := noE
theorem len__law_pick : ∀ as, pre__law_pick as → as.length = 2 := by rintro as ⟨_, rfl, _⟩; rfl
/-- a text of the law's signs -/
def TextS (z : Str) : Prop := z.length ≤ 32 ∧ ∀ c ∈ z.cps.toList, c ∈ lawT.cps.toList
def pre__law_text (as : List AV) : Prop := as = [.drw]
def post__law_text (_ : List AV) (d : PyData) : Prop := ∃ z, d = .str z ∧ TextS z
abbrev exc__law_text := noE
theorem len__law_text : ∀ as, pre__law_text as → as.length = 1 := by rintro as rfl; rfl
def IntS (i : Int) : Prop := -1000000000000000000 ≤ i ∧ i ≤ 1000000000000000000
def pre__law_integer (as : List AV) : Prop := as = [.drw]
def post__law_integer (_ : List AV) (d : PyData) : Prop := ∃ i, d = .int i ∧ IntS i
abbrev exc__law_integer := noE
theorem len__law_integer : ∀ as, pre__law_integer as → as.length = 1 := by rintro as rfl; rfl
def ValS (d : PyData) : Prop := (∃ z, d = .str z ∧ TextS z) ∨ ∃ i, d = .int i ∧ IntS i
def pre__law_value (as : List AV) : Prop := as = [.drw]
def post__law_value (_ : List AV) (d : PyData) : Prop := ValS d
abbrev exc__law_value := noE
theorem len__law_value : ∀ as, pre__law_value as → as.length = 1 := by rintro as rfl; rfl
section
variable {P : Program} {w : World} {K : PySem.W.Frag} {mg : Str → Option Value} {base : Heap} {f : Addr} {fd : FuncData}
abbrev s__law_pick : Stmt := top 39
abbrev N__law_pick : List Str := ["_law_heap_here", "_law_some"]
theorem sc__law_pick : FnScope N__law_pick ["_law_heap_here", "_law_some"] (defScope s__law_pick) := ⟨rfl, rfl, rfl, by decide +kernel, rfl, by decide +kernel, by decide +kernel⟩
def w__law_pick : WS := (wRet (wOp gIx (wVar 1) (wCall pre__law_draw post__law_draw exc__law_draw (wuCons (wVar 0) (wuCons (wUn gLen (wVar 1)) wuNil)))))
def Go__law_pick : Prop := ∀ as, pre__law_pick as → w__law_pick (startS 2 as) ⟨fun _ => post__law_pick as .none, fun d _ => post__law_pick as d, fun _ => False, fun _ => False, fun c x _ => exc__law_pick as c x⟩
theorem ok__law_pick (go : Go__law_pick) (F : FnP K "_law_pick" s__law_pick f fd) (T : Fx mg) (C__law_draw : Ca5 P w K mg base (L2.CX P w) 1 "_law_draw" ["_law_heap_here", "_law_many"] (spU K (erL K) anyM pre__law_draw post__law_draw exc__law_draw)) : FnG P w K mg base (L2.CX P w) 2 f fd ["_law_heap_here", "_law_some"] (spU K (erL K) anyM pre__law_pick post__law_pick exc__law_pick) := by
  have nd := sc__law_pick.nd
  refine fn_w (ws := w__law_pick) F sc__law_pick len__law_pick (by decide) (fun cdv A out s H E hG hr => ?_) go
  exact ⟨_, (dss_one (ds_ret (de_ix rfl (de_var (pv 1)) (de_call C__law_draw hG (hr.mono (by decide)) (passW (takes_of rfl rfl rfl rfl)) (fun _ _ => trivial) (du_cons (de_var (pv 0)) (du_cons (de_b1 (cl_lenK K rfl) us_len T.b_len (de_var (pv 1))) du_nil))))))⟩

abbrev s__law_text : Stmt := top 41
abbrev N__law_text : List Str := ["_law_heap_here", "_law_signs", "_law_turn"]
theorem sc__law_text : FnScope N__law_text ["_law_heap_here"] (defScope s__law_text) := ⟨rfl, rfl, rfl, by decide +kernel, rfl, by decide +kernel, by decide +kernel⟩
def w__law_text : WS := (wSeq (wSet 1 (wC (.str " -./0123456789:ABCDEFGHIJKLMNOPQRSTUVWXYZ_abcdefghijklmnopqrstuvwxyz")))
 (wRet (wJoin (wC (.str "")) (wLc (wiRng1 (waCons (wCall pre__law_pick post__law_pick exc__law_pick (wuCons (wVar 0) (wuCons (wLst (waCons (wC (.int 0)) (waCons (wC (.int 1)) (waCons (wC (.int 1)) (waCons (wC (.int 2)) (waCons (wC (.int 3)) (waCons (wC (.int 5)) (waCons (wC (.int 32)) waNil)))))))) wuNil))) waNil)) (wgName 2) wYes (wCall pre__law_pick post__law_pick exc__law_pick (wuCons (wVar 0) (wuCons (wVar 1) wuNil))) [2]))))
def Go__law_text : Prop := ∀ as, pre__law_text as → w__law_text (startS 3 as) ⟨fun _ => post__law_text as .none, fun d _ => post__law_text as d, fun _ => False, fun _ => False, fun c x _ => exc__law_text as c x⟩
theorem ok__law_text (go : Go__law_text) (F : FnP K "_law_text" s__law_text f fd) (T : Fx mg) (C__law_pick : Ca5 P w K mg base (L2.CX P w) 2 "_law_pick" ["_law_heap_here", "_law_some"] (spU K (erL K) anyM pre__law_pick post__law_pick exc__law_pick)) : FnG P w K mg base (L2.CX P w) 3 f fd ["_law_heap_here"] (spU K (erL K) anyM pre__law_text post__law_text exc__law_text) := by
  have nd := sc__law_text.nd
  refine fn_w (ws := w__law_text) F sc__law_text len__law_text (by decide) (fun cdv A out s H E hG hr => ?_) go
  exact ⟨_, (dss_cons (ds_set (i := 1) nd rfl (Or.inr rfl) (de_str pe_str))
 (dss_one (ds_ret (de_join rfl (de_str pe_str) (de_lc (own := [("_law_turn", 2)]) (g := (gName 2)) rfl nd (di_rng1 rfl T.b_range (da_cons' (de_call C__law_pick hG (hr.mono (by decide)) (passW (takes_of rfl rfl rfl rfl)) (fun _ _ => trivial) (du_cons (de_var (pv 0)) (du_cons (de_lst (da_cons' (de_int pe_int) (da_cons' (de_int pe_int) (da_cons' (de_int pe_int) (da_cons' (de_int pe_int) (da_cons' (de_int pe_int) (da_cons' (de_int pe_int) (da_cons' (de_int pe_int) da_nil')))))))) du_nil))) da_nil')) (blkOk_by (own := [("_law_turn", 2)]) (N := N__law_text) (sc := defScope s__law_text) (by decide +kernel)) (tin_name (by decide)) (fun _ _ _ _ _ => (dg_name (pg_name (i := 2) nd rfl (Or.inl rfl)))) (fun _ _ _ _ _ => dts_nil) (fun _ _ _ _ _ => (de_call C__law_pick hG (hr.mono (by decide)) passN (fun _ _ => trivial) (du_cons (de_var (pv 0)) (du_cons (de_var (pv 1)) du_nil)))))))))⟩

abbrev s__law_integer : Stmt := top 42
abbrev N__law_integer : List Str := ["_law_heap_here", "_law_great", "_law_found"]
theorem sc__law_integer : FnScope N__law_integer ["_law_heap_here"] (defScope s__law_integer) := ⟨rfl, rfl, rfl, by decide +kernel, rfl, by decide +kernel, by decide +kernel⟩
def w__law_integer : WS := (wSeq (wSet 1 (wC (.int 1000000000000000000)))
 (wSeq (wSet 2 (wCall pre__law_pick post__law_pick exc__law_pick (wuCons (wVar 0) (wuCons (wLst (waCons (wCall pre__law_draw post__law_draw exc__law_draw (wuCons (wVar 0) (wuCons (wC (.int 5)) wuNil))) (waCons (wCall pre__law_draw post__law_draw exc__law_draw (wuCons (wVar 0) (wuCons (wC (.int 300)) wuNil))) (waCons (wCall pre__law_draw post__law_draw exc__law_draw (wuCons (wVar 0) (wuCons (wC (.int 40000)) wuNil))) (waCons (wVar 1) (waCons (wOp gSub (wVar 1) (wCall pre__law_draw post__law_draw exc__law_draw (wuCons (wVar 0) (wuCons (wC (.int 9)) wuNil)))) waNil)))))) wuNil))))
 (wRet (wIf (wTest (wOp gEq (wCall pre__law_draw post__law_draw exc__law_draw (wuCons (wVar 0) (wuCons (wC (.int 2)) wuNil))) (wC (.int 0)))) (wVar 2) (wOp gSub (wC (.int 0)) (wVar 2))))))
def Go__law_integer : Prop := ∀ as, pre__law_integer as → w__law_integer (startS 3 as) ⟨fun _ => post__law_integer as .none, fun d _ => post__law_integer as d, fun _ => False, fun _ => False, fun c x _ => exc__law_integer as c x⟩
theorem ok__law_integer (go : Go__law_integer) (F : FnP K "_law_integer" s__law_integer f fd) (T : Fx mg) (C__law_pick : Ca5 P w K mg base (L2.CX P w) 2 "_law_pick" ["_law_heap_here", "_law_some"] (spU K (erL K) anyM pre__law_pick post__law_pick exc__law_pick)) (C__law_draw : Ca5 P w K mg base (L2.CX P w) 1 "_law_draw" ["_law_heap_here", "_law_many"] (spU K (erL K) anyM pre__law_draw post__law_draw exc__law_draw)) : FnG P w K mg base (L2.CX P w) 3 f fd ["_law_heap_here"] (spU K (erL K) anyM pre__law_integer post__law_integer exc__law_integer) := by
  have nd := sc__law_integer.nd
  refine fn_w (ws := w__law_integer) F sc__law_integer len__law_integer (by decide) (fun cdv A out s H E hG hr => ?_) go
  exact ⟨_, (dss_cons (ds_set (i := 1) nd rfl (Or.inl rfl) (de_int pe_int))
 (dss_cons (ds_set (i := 2) nd rfl (Or.inl rfl) (de_call C__law_pick hG (hr.mono (by decide)) (passW (takes_of rfl rfl rfl rfl)) (fun _ _ => trivial) (du_cons (de_var (pv 0)) (du_cons (de_lst (da_cons' (de_call C__law_draw hG (hr.mono (by decide)) (passW (takes_of rfl rfl rfl rfl)) (fun _ _ => trivial) (du_cons (de_var (pv 0)) (du_cons (de_int pe_int) du_nil))) (da_cons' (de_call C__law_draw hG (hr.mono (by decide)) (passW (takes_of rfl rfl rfl rfl)) (fun _ _ => trivial) (du_cons (de_var (pv 0)) (du_cons (de_int pe_int) du_nil))) (da_cons' (de_call C__law_draw hG (hr.mono (by decide)) (passW (takes_of rfl rfl rfl rfl)) (fun _ _ => trivial) (du_cons (de_var (pv 0)) (du_cons (de_int pe_int) du_nil))) (da_cons' (de_var (pv 1)) (da_cons' (de_op op_sub os_sub (de_var (pv 1)) (de_call C__law_draw hG (hr.mono (by decide)) (passW (takes_of rfl rfl rfl rfl)) (fun _ _ => trivial) (du_cons (de_var (pv 0)) (du_cons (de_int pe_int) du_nil)))) da_nil')))))) du_nil))))
 (dss_one (ds_ret (de_ifx (dt_cmp (op_eqW rfl (hu64 hr)) os_eq (nomark _) (de_call C__law_draw hG (hr.mono (by decide)) (passW (takes_of rfl rfl rfl rfl)) (fun _ _ => trivial) (du_cons (de_var (pv 0)) (du_cons (de_int pe_int) du_nil))) (de_int pe_int)) (de_var (pv 2)) (de_op op_sub os_sub (de_int pe_int) (de_var (pv 2))))))))⟩

abbrev s__law_value : Stmt := top 43
abbrev N__law_value : List Str := ["_law_heap_here"]
theorem sc__law_value : FnScope N__law_value ["_law_heap_here"] (defScope s__law_value) := ⟨rfl, rfl, rfl, by decide +kernel, rfl, by decide +kernel, by decide +kernel⟩
def w__law_value : WS := (wRet (wIf (wTest (wOp gEq (wCall pre__law_draw post__law_draw exc__law_draw (wuCons (wVar 0) (wuCons (wC (.int 2)) wuNil))) (wC (.int 0)))) (wCall pre__law_text post__law_text exc__law_text (wuCons (wVar 0) wuNil)) (wCall pre__law_integer post__law_integer exc__law_integer (wuCons (wVar 0) wuNil))))
def Go__law_value : Prop := ∀ as, pre__law_value as → w__law_value (startS 1 as) ⟨fun _ => post__law_value as .none, fun d _ => post__law_value as d, fun _ => False, fun _ => False, fun c x _ => exc__law_value as c x⟩
theorem ok__law_value (go : Go__law_value) (F : FnP K "_law_value" s__law_value f fd) (T : Fx mg) (C__law_draw : Ca5 P w K mg base (L2.CX P w) 1 "_law_draw" ["_law_heap_here", "_law_many"] (spU K (erL K) anyM pre__law_draw post__law_draw exc__law_draw)) (C__law_text : Ca5 P w K mg base (L2.CX P w) 3 "_law_text" ["_law_heap_here"] (spU K (erL K) anyM pre__law_text post__law_text exc__law_text)) (C__law_integer : Ca5 P w K mg base (L2.CX P w) 3 "_law_integer" ["_law_heap_here"] (spU K (erL K) anyM pre__law_integer post__law_integer exc__law_integer)) : FnG P w K mg base (L2.CX P w) 4 f fd ["_law_heap_here"] (spU K (erL K) anyM pre__law_value post__law_value exc__law_value) := by
  have nd := sc__law_value.nd
  refine fn_w (ws := w__law_value) F sc__law_value len__law_value (by decide) (fun cdv A out s H E hG hr => ?_) go
  exact ⟨_, (dss_one (ds_ret (de_ifx (dt_cmp (op_eqW rfl (hu64 hr)) os_eq (nomark _) (de_call C__law_draw hG (hr.mono (by decide)) (passW (takes_of rfl rfl rfl rfl)) (fun _ _ => trivial) (du_cons (de_var (pv 0)) (du_cons (de_int pe_int) du_nil))) (de_int pe_int)) (de_call C__law_text hG (hr.mono (by decide)) (passW (takes_of rfl rfl rfl rfl)) (fun _ _ => trivial) (du_cons (de_var (pv 0)) du_nil)) (de_call C__law_integer hG (hr.mono (by decide)) (passW (takes_of rfl rfl rfl rfl)) (fun _ _ => trivial) (du_cons (de_var (pv 0)) du_nil)))))⟩

end
theorem go__law_pick : Go__law_pick := by
  rintro as ⟨x, rfl, hx⟩
  unfold w__law_pick
  have hz := sizeLine_eq
  rcases hx with ⟨l, rfl, hl, hn⟩ | ⟨z, rfl, hl, hn⟩
  · walk_at "go"
    have hl2 : 0 < l.length := List.length_pos_iff.mpr hl
    refine ⟨⟨_, rfl, by omega, by omega⟩, ?_, fun _ _ z => z.elim⟩
    rintro d ⟨n, i, e, rfl, i0, i1⟩
    walk_at "dw"
    cases PyData.int.inj (AV.d.inj (List.cons.inj (List.cons.inj e).2).1)
    obtain ⟨d, e1, e2⟩ := atI_mem (ds := l) i0 i1
    exact ⟨d, e1, _, rfl, .inl ⟨l, rfl, e2⟩⟩
  · walk_at "go"
    refine ⟨by omega, ⟨_, rfl, by omega, by omega⟩, ?_, fun _ _ z => z.elim⟩
    rintro d ⟨n, i, e, rfl, i0, i1⟩
    walk_at "dw"
    cases PyData.int.inj (AV.d.inj (List.cons.inj (List.cons.inj e).2).1)
    obtain ⟨j, rfl⟩ := Int.eq_ofNat_of_zero_le i0
    have hj : j < z.cps.toList.length := by
      have : z.cps.toList.length = z.length := by simp; rfl
      omega
    exact ⟨by omega, _, L2.atI_nat (List.getElem?_eq_getElem hj), _, rfl, .inr ⟨z, _, rfl, List.getElem_mem hj, rfl⟩⟩
theorem draw_ok {n : Int} (h : 0 < n) (h' : n < 2 ^ 60) : pre__law_draw [.drw, .d (.int n)] := ⟨n, rfl, h, h'⟩
theorem draw_use {n : Int} {P : PyData → Prop} (h : ∀ i : Int, 0 ≤ i → i < n → P (.int i)) : ∀ d, post__law_draw [.drw, .d (.int n)] d → P d := by
  rintro d ⟨n', i, e, rfl, i0, i1⟩
  cases PyData.int.inj (AV.d.inj (List.cons.inj (List.cons.inj e).2).1)
  exact h i i0 i1
theorem pick_ok {l : List PyData} (h : l ≠ []) (h' : l.length < 2 ^ 20) : pre__law_pick [.drw, .d (.list l)] := ⟨_, rfl, .inl ⟨l, rfl, h, h'⟩⟩
theorem pick_use {l : List PyData} {P : PyData → Prop} (h : ∀ x ∈ l, P x) : ∀ d, post__law_pick [.drw, .d (.list l)] d → P d := by
  rintro d ⟨x, e, ⟨l', rfl, hm⟩ | ⟨z, c, rfl, _⟩⟩
  · cases PyData.list.inj (AV.d.inj (List.cons.inj (List.cons.inj e).2).1)
    exact h d hm
  · exact nomatch (AV.d.inj (List.cons.inj (List.cons.inj e).2).1)
theorem pick_okS {z : Str} (h : z.length ≠ 0) (h' : z.length < 2 ^ 20) : pre__law_pick [.drw, .d (.str z)] := ⟨_, rfl, .inr ⟨z, rfl, h, h'⟩⟩
theorem pick_useS {z : Str} {P : PyData → Prop} (h : ∀ c ∈ z.cps.toList, P (.str ⟨#[c]⟩)) : ∀ d, post__law_pick [.drw, .d (.str z)] d → P d := by
  rintro d ⟨x, e, ⟨l', rfl, hm⟩ | ⟨z', c, rfl, hc, rfl⟩⟩
  · exact nomatch (AV.d.inj (List.cons.inj (List.cons.inj e).2).1)
  · cases PyData.str.inj (AV.d.inj (List.cons.inj (List.cons.inj e).2).1)
    exact h c hc
theorem pick_ints {l : List Int} {P : PyData → Prop} (h : ∀ j ∈ l, P (.int j)) : ∀ x ∈ oD l, P x := fun x hx => by
  obtain ⟨j, hj, rfl⟩ := List.mem_map.mp hx
  exact h j hj
/-- signs drawn -/
def InS (z : Str) (w : List Int) : Prop := ∀ o ∈ w, ∃ c, c ∈ z.cps.toList ∧ o = (c : Nat)
theorem inS_snoc {z : Str} {w : List Int} {c : Nat} (h : InS z w) (hc : c ∈ z.cps.toList) : InS z (w ++ [(c : Int)]) := fun o ho => by
  rcases List.mem_append.mp ho with ho | ho
  · exact h o ho
  · exact ⟨c, hc, List.mem_singleton.mp ho⟩
theorem inS_mem {z : Str} {w : List Int} (h : InS z w) : ∀ c ∈ (strOf w).cps.toList, c ∈ z.cps.toList := fun c hc => by
  unfold strOf at hc
  obtain ⟨o, ho, rfl⟩ := List.mem_map.mp (by simpa using hc)
  obtain ⟨c, h1, rfl⟩ := h o ho
  exact h1
theorem go__law_text : Go__law_text := by
  rintro as rfl
  unfold w__law_text
  walk_at "go"
  have hz := sizeLine_eq
  refine ⟨by decide, pick_ok (by decide) (by decide), pick_use (pick_ints (l := [0, 1, 1, 2, 3, 5, 32]) fun j hj => ?_), fun _ _ z => z⟩
  have hb : 0 ≤ j ∧ j ≤ 32 := by
    have := List.all_eq_true.mp (show [0, 1, 1, 2, 3, 5, 32].all (fun j : Int => decide (0 ≤ j ∧ j ≤ 32)) = true by decide) j hj
    simpa using this
  walk_at "dw"
  refine ⟨⟨by omega, by omega⟩, by rw [rngD_len]; omega, fun i acc s => s = [some .drw, some (.d (.str lawT)), none] ∧ ∃ w, acc = w.map oneS ∧ w.length = i ∧ InS lawT w, ⟨rfl, [], rfl, rfl, fun _ z => absurd z List.not_mem_nil⟩, ?_, ?_⟩
  · rintro i d acc s2 hd ⟨rfl, w, rfl, hw, hi⟩
    walk_at "dw"
    refine ⟨pick_okS (by decide) (by decide), pick_useS fun c hc => ?_, fun _ _ z => z⟩
    exact ⟨w ++ [(c : Int)], by rw [List.map_append]; rfl, by rw [List.length_append, List.length_singleton, hw], inS_snoc hi hc⟩
  · rintro acc s2 ⟨rfl, w, rfl, hw, hi⟩
    rw [rngD_len] at hw
    refine ⟨_, _, _, rfl, .inl rfl, strsOf_ones w, ?_, _, rfl, ?_⟩
    · rw [sum_ones]
      have : (Str.ofString "").length = 0 := rfl
      rw [this]; omega
    · rw [join_ones]
      exact ⟨by rw [strOf_len]; omega, inS_mem hi⟩
theorem go__law_integer : Go__law_integer := by
  rintro as rfl
  unfold w__law_integer
  walk_at "go"
  refine ⟨draw_ok (by decide) (by decide), draw_use fun a a0 a1 => ⟨draw_ok (by decide) (by decide), draw_use fun b b0 b1 => ⟨draw_ok (by decide) (by decide), draw_use fun c c0 c1 => ⟨draw_ok (by decide) (by decide), draw_use fun d d0 d1 => ?_, fun _ _ z => z⟩, fun _ _ z => z⟩, fun _ _ z => z⟩, fun _ _ z => z⟩
  walk_at "dw"
  refine ⟨by decide, pick_ok (by simp) (show 5 < 2 ^ 20 by decide), pick_use (pick_ints (l := [a, b, c, 1000000000000000000, 1000000000000000000 - d]) fun j hj => ?_), fun _ _ z => z⟩
  have hb : 0 ≤ j ∧ j ≤ 1000000000000000000 := by
    simp only [List.mem_cons, List.not_mem_nil, or_false] at hj
    omega
  walk_at "ds"
  refine ⟨draw_ok (by decide) (by decide), draw_use fun e e0 e1 => ?_, fun _ _ z => z⟩
  walk_at "dw"
  split
  · exact ⟨j, rfl, by unfold IntS; omega⟩
  · exact ⟨_, rfl, by unfold IntS; omega⟩
theorem go__law_value : Go__law_value := by
  rintro as rfl
  unfold w__law_value
  walk_at "go"
  refine ⟨draw_ok (by decide) (by decide), draw_use fun e e0 e1 => ?_, fun _ _ z => z⟩
  walk_at "dw"
  split
  · exact ⟨rfl, fun d h => .inl h, fun _ _ z => z⟩
  · exact ⟨rfl, fun d h => .inr h, fun _ _ z => z⟩
end K04

namespace K04
open PySem PySem.Spec
open PyProof.Rows L2 DL DW
local macro_rules | `(tactic| walk_at "dw0") => `(tactic| simp only [DW.startS, DW.AV.sv, List.map_cons, List.map_nil, List.length_cons, List.length_nil, List.replicate_succ, List.replicate_zero, List.cons_append, List.nil_append, Nat.reduceAdd, Nat.reduceSub])
local macro_rules | `(tactic| walk_at "dw") => `(tactic| simp only [DW.wSeq, DW.wNext, DW.wIfS, DW.wRet, DW.wRetN, DW.wBreak, DW.wCont, DW.wSet, DW.wAsg, DW.wNew, DW.wNewL, DW.wNewC, DW.wExpr, DW.wApp, DW.wExt, DW.wExtA, DW.wPop, DW.wAug, DW.wRaise, DW.wVar, DW.wC, DW.wRaw, DW.wOp, DW.wUn, DW.waNil, DW.waCons, DW.wCB, DW.wTup, DW.wLst, DW.wTest, DW.wYes, DW.wAnd, DW.wOr, DW.wNot, DW.wTr, DW.gTr, DW.wAndV, DW.wOrV, DW.wNotV, DW.wIf, DW.rdq, DW.frz, DW.asg, DW.avf, DW.wuNil, DW.wuCons, DW.wCall, DW.wCallK, DW.wgName, DW.wgTup, DW.wgCons, DW.wgNil,
  DW.wParN, DW.wnNil, DW.wnD, DW.wnNew, DW.asgN, DW.gAdd, DW.gSub, DW.gMul, DW.gMod, DW.gDiv, DW.gPow, DW.gLt, DW.gLe, DW.gGt, DW.gGe, DW.gEq, DW.gNe, DW.gEqS, DW.gNeS, DW.pick, List.filterMap_cons, List.filterMap_nil, DW.gInB, DW.gIs, DW.gIsNot, DW.gIx, DW.gNeg, DW.gLen, DW.gToT, DW.gToL, DW.gInt, DW.gAbs, DW.gRepr, DW.gMin2, DW.gMax2, DW.gOrd, DW.gStr, DW.gAddI, DW.gSubI, DW.gIsB, DW.gIsntB, DW.gRep, DW.gSorted, DW.wJoin, DW.gJoin, DW.wIndex, DW.gIndex, DW.wRg1, DW.wRg2, DW.LT.mk, DW.wiSeq, DW.wiRng1, DW.wiRng2, DW.wiRngB, DW.wiEnumX, DW.wiEnum, DW.wipeS, DL.truth, DL.isNo, DW.wIsi, DW.wChain, DW.wSl, DW.gSl, DW.gRev, DW.woNone, DW.woSome, DW.wFor_eq, DW.wLc_eq, DW.wNewLc_eq, DW.one_ord, DW.one_len, DL.oD_len,
  DW.eqv_int, DW.sh_intT, true_and, List.getElem?_cons_zero, List.getElem?_cons_succ, List.set_cons_zero, List.set_cons_succ, List.length_cons, List.length_nil, if_true, if_false, decide_eq_true_eq, Bool.false_eq_true, reduceIte, List.cons_append, List.nil_append, Nat.reduceAdd, Bool.not_true, Bool.not_false])
local macro_rules | `(tactic| walk_at "ds") => `(tactic| repeat ((with_reducible refine DW.Kt_i ?_); (walk_at "dw")))
local macro_rules | `(tactic| walk_at "go") => `(tactic| ((walk_at "dw0"); (walk_at "dw"); (walk_at "ds")))
local macro_rules | `(tactic| walk_at "dt") => `(tactic| ((try walk_at "dw"); (walk_at "ds")))
/-! ### keys drawn, things drawn -/
def KeyS (z : Str) : Prop := z.length ≠ 0 ∧ z.length ≤ 16 ∧ ∀ c ∈ z.cps.toList, c ∈ c_KEY_SIGNS.cps.toList
def pre__law_keys (as : List AV) : Prop := ∃ n : Int, as = [.drw, .d (.int n)] ∧ 0 < n ∧ n ≤ 4
def post__law_keys (_ : List AV) (d : PyData) : Prop := ∃ ks : List Str, d = .list (ks.map .str) ∧ ks ≠ [] ∧ ks.Nodup ∧ ks.length ≤ 4 ∧ ∀ k ∈ ks, KeyS k
abbrev exc__law_keys := noE
theorem len__law_keys : ∀ as, pre__law_keys as → as.length = 2 := by rintro as ⟨_, rfl, _⟩; rfl
def EndS (d : PyData) : Prop := d = .none ∨ ∃ z, d = .str z ∧ KeyS z
/-- keys that rise -/
def Rise (ps : List (Str × PyData)) : Prop := (ps.map (·.1)).Pairwise fun a b => sLt a b = true
def GoodT (w : Str) (t : PyData) : Prop := (w = wN ∧ ∃ ns, t = .tuple (oD ns) ∧ ns.length ≤ 4 ∧ ∀ n ∈ ns, 0 ≤ n ∧ n < 99999) ∨
  (w = wR ∧ ∃ lo hi, t = .tuple [lo, hi] ∧ EndS lo ∧ EndS hi) ∨
  (w = wE ∧ ∃ ps, t = pairsD ps ∧ ps.length ≤ 4 ∧ Rise ps ∧ ∀ p ∈ ps, KeyS p.1 ∧ ValS p.2) ∨
  (w = wW ∧ ∃ ps, t = pairsD ps ∧ ps.length ≤ 4 ∧ Rise ps ∧ ∀ p ∈ ps, KeyS p.1 ∧ (p.2 = .none ∨ ValS p.2))
def pre__law_thing (as : List AV) : Prop := ∃ w : Str, as = [.drw, .d (.str w)] ∧ Word w
def post__law_thing (as : List AV) (d : PyData) : Prop := ∃ w : Str, as = [.drw, .d (.str w)] ∧ GoodT w d
abbrev exc__law_thing := noE
theorem len__law_thing : ∀ as, pre__law_thing as → as.length = 2 := by rintro as ⟨_, rfl, _⟩; rfl
def pre__law_bent (as : List AV) : Prop := ∃ xs : List Int, as = [.drw, .d (.tuple (oD xs))] ∧ Oct xs ∧ xs ≠ [] ∧ xs.length < 2 ^ 9
def post__law_bent (_ : List AV) (d : PyData) : Prop := ∃ ys : List Int, d = .tuple (oD ys) ∧ Oct ys ∧ ys.length < 2 ^ 10
abbrev exc__law_bent := noE
theorem len__law_bent : ∀ as, pre__law_bent as → as.length = 2 := by rintro as ⟨_, rfl, _⟩; rfl
section
variable {P : Program} {w : World} {K : PySem.W.Frag} {mg : Str → Option Value} {base : Heap} {f : Addr} {fd : FuncData}
abbrev s__law_keys : Stmt := top 40
abbrev N__law_keys : List Str := ["_law_heap_here", "_law_many", "_law_signs", "_law_stem", "_law_first", "_law_step", "_law_found", "_law_turn", "_law_key"]
theorem sc__law_keys : FnScope N__law_keys ["_law_heap_here", "_law_many"] (defScope s__law_keys) := ⟨rfl, rfl, rfl, by decide +kernel, rfl, by decide +kernel, by decide +kernel⟩
def w__law_keys : WS := (wSeq (wSet 2 (wC (.str "0123456789_abcdefghijklmnopqrstuvwxyz")))
 (wSeq (wSet 3 (wJoin (wC (.str "")) (wLc (wiRng1 (waCons (wCall pre__law_pick post__law_pick exc__law_pick (wuCons (wVar 0) (wuCons (wLst (waCons (wC (.int 0)) (waCons (wC (.int 0)) (waCons (wC (.int 1)) (waCons (wC (.int 2)) (waCons (wC (.int 15)) waNil)))))) wuNil))) waNil)) (wgName 7) wYes (wCall pre__law_pick post__law_pick exc__law_pick (wuCons (wVar 0) (wuCons (wVar 2) wuNil))) [7])))
 (wSeq (wParN [4, 5, 6] (wnD (wCall pre__law_draw post__law_draw exc__law_draw (wuCons (wVar 0) (wuCons (wC (.int 37)) wuNil))) (wnD (wCall pre__law_pick post__law_pick exc__law_pick (wuCons (wVar 0) (wuCons (wLst (waCons (wC (.int 1)) (waCons (wC (.int 2)) (waCons (wC (.int 5)) (waCons (wC (.int 11)) waNil))))) wuNil))) (wnNew waNil wnNil))))
 (wSeq (wFor (wiRng1 (waCons (wVar 1) waNil)) (wgName 7)
 (wSeq (wSet 8 (wOp gAdd (wVar 3) (wOp gIx (wVar 2) (wOp gMod (wUn gInt (wOp gAdd (wVar 4) (wOp gMul (wVar 5) (wVar 7)))) (wC (.int 37))))))
 (wSeq (wIfS (wAnd (wTest (wOp gLt (wUn gLen (wVar 8)) (wC (.int 14)))) (wTest (wOp gEq (wCall pre__law_draw post__law_draw exc__law_draw (wuCons (wVar 0) (wuCons (wC (.int 4)) wuNil))) (wC (.int 0))))) (wSet 8 (wOp gAdd (wOp gAdd (wVar 8) (wCall pre__law_pick post__law_pick exc__law_pick (wuCons (wVar 0) (wuCons (wVar 2) wuNil)))) (wCall pre__law_pick post__law_pick exc__law_pick (wuCons (wVar 0) (wuCons (wLst (waCons (wC (.str "")) (waCons (wC (.str "_")) (waCons (wC (.str "0")) waNil)))) wuNil)))))
 wNext)
 (wIfS (wTest (wOp gNotIn (wVar 8) (wVar 6))) (wApp 6 (wVar 8))
 wNext))))
 (wRet (wVar 6))))))
def Go__law_keys : Prop := ∀ as, pre__law_keys as → w__law_keys (startS 9 as) ⟨fun _ => post__law_keys as .none, fun d _ => post__law_keys as d, fun _ => False, fun _ => False, fun c x _ => exc__law_keys as c x⟩
theorem ok__law_keys (go : Go__law_keys) (F : FnP K "_law_keys" s__law_keys f fd) (T : Fx mg) (C__law_pick : Ca5 P w K mg base (L2.CX P w) 2 "_law_pick" ["_law_heap_here", "_law_some"] (spU K (erL K) anyM pre__law_pick post__law_pick exc__law_pick)) (C__law_draw : Ca5 P w K mg base (L2.CX P w) 1 "_law_draw" ["_law_heap_here", "_law_many"] (spU K (erL K) anyM pre__law_draw post__law_draw exc__law_draw)) : FnG P w K mg base (L2.CX P w) 3 f fd ["_law_heap_here", "_law_many"] (spU K (erL K) anyM pre__law_keys post__law_keys exc__law_keys) := by
  have nd := sc__law_keys.nd
  refine fn_w (ws := w__law_keys) F sc__law_keys len__law_keys (by decide) (fun cdv A out s H E hG hr => ?_) go
  exact ⟨_, (dss_cons (ds_set (i := 2) nd rfl (Or.inr rfl) (de_str pe_str))
 (dss_cons (ds_set (i := 3) nd rfl (Or.inl rfl) (de_join rfl (de_str pe_str) (de_lc (own := [("_law_turn", 7)]) (g := (gName 7)) rfl nd (di_rng1 rfl T.b_range (da_cons' (de_call C__law_pick hG (hr.mono (by decide)) (passW (takes_of rfl rfl rfl rfl)) (fun _ _ => trivial) (du_cons (de_var (pv 0)) (du_cons (de_lst (da_cons' (de_int pe_int) (da_cons' (de_int pe_int) (da_cons' (de_int pe_int) (da_cons' (de_int pe_int) (da_cons' (de_int pe_int) da_nil')))))) du_nil))) da_nil')) (blkOk_by (own := [("_law_turn", 7)]) (N := N__law_keys) (sc := defScope s__law_keys) (by decide +kernel)) (tin_name (by decide)) (fun _ _ _ _ _ => (dg_name (pg_name (i := 7) nd rfl (Or.inl rfl)))) (fun _ _ _ _ _ => dts_nil) (fun _ _ _ _ _ => (de_call C__law_pick hG (hr.mono (by decide)) passN (fun _ _ => trivial) (du_cons (de_var (pv 0)) (du_cons (de_var (pv 2)) du_nil)))))))
 (dss_cons (ds_parN3 (fun h => ps_par3 (i := 4) (j := 5) (l := 6) (by rfl) nd rfl rfl rfl (by decide) (by decide) (by decide) rfl rfl rfl h (by rfl)) (dn_d (de_call C__law_draw hG (hr.mono (by decide)) (passW (takes_of rfl rfl rfl rfl)) (fun _ _ => trivial) (du_cons (de_var (pv 0)) (du_cons (de_int pe_int) du_nil))) (dn_d (de_call C__law_pick hG (hr.mono (by decide)) (passW (takes_of rfl rfl rfl rfl)) (fun _ _ => trivial) (du_cons (de_var (pv 0)) (du_cons (de_lst (da_cons' (de_int pe_int) (da_cons' (de_int pe_int) (da_cons' (de_int pe_int) (da_cons' (de_int pe_int) da_nil'))))) du_nil))) (dn_new da_nil' dn_nil))))
 (dss_cons (ds_for (passes_of rfl) rfl (di_rng1 rfl T.b_range (da_cons' (de_var (pv 1)) da_nil')) (dg_name (pg_name (i := 7) nd rfl (Or.inl rfl)))
 (dss_cons (ds_set (i := 8) nd rfl (Or.inl rfl) (de_op (op_addW rfl) os_add (de_var (pv 3)) (de_ix rfl (de_var (pv 2)) (de_op op_mod os_mod (de_t1 cl_int us_int T.b_int (de_op (op_addW rfl) os_add (de_var (pv 4)) (de_op op_mulW os_mul (de_var (pv 5)) (de_var (pv 7))))) (de_int pe_int)))))
 (dss_cons (ds_if (dt_w (dw_and (dt_cmp op_ltW os_lt (nomark _) (de_b1 (cl_lenK K rfl) us_len T.b_len (de_var (pv 8))) (de_int pe_int)) (dw_and1 (dt_cmp (op_eqW rfl (hu64 hr)) os_eq (nomark _) (de_call C__law_draw hG (hr.mono (by decide)) (passW (takes_of rfl rfl rfl rfl)) (fun _ _ => trivial) (du_cons (de_var (pv 0)) (du_cons (de_int pe_int) du_nil))) (de_int pe_int))))) (dss_one (ds_set (i := 8) nd rfl (Or.inl rfl) (de_op (op_addW rfl) os_add (de_op (op_addW rfl) os_add (de_var (pv 8)) (de_call C__law_pick hG (hr.mono (by decide)) (passW (takes_of rfl rfl rfl rfl)) (fun _ _ => trivial) (du_cons (de_var (pv 0)) (du_cons (de_var (pv 2)) du_nil)))) (de_call C__law_pick hG (hr.mono (by decide)) (passW (takes_of rfl rfl rfl rfl)) (fun _ _ => trivial) (du_cons (de_var (pv 0)) (du_cons (de_lst (da_cons' (de_str pe_str) (da_cons' (de_str pe_str) (da_cons' (de_str pe_str) da_nil')))) du_nil))))))
 dss_nil)
 (dss_one (ds_if (dt_cmp (op_niW rfl (hu65 hr)) os_notIn rfl (de_var (pv 8)) (de_var (pv 6))) (dss_one (ds_appD rfl (fun h => ps_expr (pe_bm PySem.F.plainAttrs_list PySem.F.slot_list_append PySem.F.type_list_append mt_append (pv 6) h)) (de_var (pv 8))))
 dss_nil)))))
 (dss_one (ds_ret (de_var (pv 6))))))))⟩

abbrev s__law_thing : Stmt := top 52
abbrev N__law_thing : List Str := ["_law_heap_here", "_law_word", "_law_keys_here", "_law_some", "_law_key", "_law_turn"]
theorem sc__law_thing : FnScope N__law_thing ["_law_heap_here", "_law_word"] (defScope s__law_thing) := ⟨rfl, rfl, rfl, by decide +kernel, rfl, by decide +kernel, by decide +kernel⟩
def w__law_thing : WS := (wSeq (wSet 2 (wCall pre__law_keys post__law_keys exc__law_keys (wuCons (wVar 0) (wuCons (wOp gAdd (wC (.int 1)) (wCall pre__law_draw post__law_draw exc__law_draw (wuCons (wVar 0) (wuCons (wC (.int 4)) wuNil)))) wuNil))))
 (wSeq (wIfS (wTest (wOp gEqS (wVar 1) (wC (.str "numbers")))) (wRet (wUn gToT (wLc (wiRng1 (waCons (wCall pre__law_draw post__law_draw exc__law_draw (wuCons (wVar 0) (wuCons (wC (.int 5)) wuNil))) waNil)) (wgName 5) wYes (wCall pre__law_pick post__law_pick exc__law_pick (wuCons (wVar 0) (wuCons (wLst (waCons (wCall pre__law_draw post__law_draw exc__law_draw (wuCons (wVar 0) (wuCons (wC (.int 130)) wuNil))) (waCons (wCall pre__law_draw post__law_draw exc__law_draw (wuCons (wVar 0) (wuCons (wC (.int 99999)) wuNil))) waNil))) wuNil))) [5])))
 wNext)
 (wSeq (wIfS (wTest (wOp gEqS (wVar 1) (wC (.str "range")))) (wRet (wTup (waCons (wCall pre__law_pick post__law_pick exc__law_pick (wuCons (wVar 0) (wuCons (wLst (waCons (wC .none) (waCons (wOp gIx (wVar 2) (wC (.int 0))) waNil))) wuNil))) (waCons (wCall pre__law_pick post__law_pick exc__law_pick (wuCons (wVar 0) (wuCons (wLst (waCons (wC .none) (waCons (wCall pre__law_pick post__law_pick exc__law_pick (wuCons (wVar 0) (wuCons (wVar 2) wuNil))) waNil))) wuNil))) waNil))))
 wNext)
 (wSeq (wSet 3 (wLc (wiSeq (wUn gSorted (wVar 2))) (wgName 4) (wTest (wOp gGt (wCall pre__law_draw post__law_draw exc__law_draw (wuCons (wVar 0) (wuCons (wC (.int 4)) wuNil))) (wC (.int 0)))) (wVar 4) [4]))
 (wSeq (wIfS (wTest (wOp gEqS (wVar 1) (wC (.str "entries")))) (wRet (wUn gToT (wLc (wiSeq (wVar 3)) (wgName 4) wYes (wTup (waCons (wVar 4) (waCons (wCall pre__law_value post__law_value exc__law_value (wuCons (wVar 0) wuNil)) waNil))) [4])))
 wNext)
 (wRet (wUn gToT (wLc (wiSeq (wVar 3)) (wgName 4) wYes (wTup (waCons (wVar 4) (waCons (wCall pre__law_pick post__law_pick exc__law_pick (wuCons (wVar 0) (wuCons (wLst (waCons (wC .none) (waCons (wCall pre__law_value post__law_value exc__law_value (wuCons (wVar 0) wuNil)) waNil))) wuNil))) waNil))) [4]))))))))
def Go__law_thing : Prop := ∀ as, pre__law_thing as → w__law_thing (startS 6 as) ⟨fun _ => post__law_thing as .none, fun d _ => post__law_thing as d, fun _ => False, fun _ => False, fun c x _ => exc__law_thing as c x⟩
theorem ok__law_thing (go : Go__law_thing) (F : FnP K "_law_thing" s__law_thing f fd) (T : Fx mg) (C__law_keys : Ca5 P w K mg base (L2.CX P w) 3 "_law_keys" ["_law_heap_here", "_law_many"] (spU K (erL K) anyM pre__law_keys post__law_keys exc__law_keys)) (C__law_draw : Ca5 P w K mg base (L2.CX P w) 1 "_law_draw" ["_law_heap_here", "_law_many"] (spU K (erL K) anyM pre__law_draw post__law_draw exc__law_draw)) (C__law_pick : Ca5 P w K mg base (L2.CX P w) 2 "_law_pick" ["_law_heap_here", "_law_some"] (spU K (erL K) anyM pre__law_pick post__law_pick exc__law_pick)) (C__law_value : Ca5 P w K mg base (L2.CX P w) 4 "_law_value" ["_law_heap_here"] (spU K (erL K) anyM pre__law_value post__law_value exc__law_value)) : FnG P w K mg base (L2.CX P w) 5 f fd ["_law_heap_here", "_law_word"] (spU K (erL K) anyM pre__law_thing post__law_thing exc__law_thing) := by
  have nd := sc__law_thing.nd
  refine fn_w (ws := w__law_thing) F sc__law_thing len__law_thing (by decide) (fun cdv A out s H E hG hr => ?_) go
  exact ⟨_, (dss_cons (ds_set (i := 2) nd rfl (Or.inl rfl) (de_call C__law_keys hG (hr.mono (by decide)) (passW (takes_of rfl rfl rfl rfl)) (fun _ _ => trivial) (du_cons (de_var (pv 0)) (du_cons (de_op (op_addW rfl) os_add (de_int pe_int) (de_call C__law_draw hG (hr.mono (by decide)) (passW (takes_of rfl rfl rfl rfl)) (fun _ _ => trivial) (du_cons (de_var (pv 0)) (du_cons (de_int pe_int) du_nil)))) du_nil))))
 (dss_cons (ds_if (dt_cmp op_eq os_eqS (nomark _) (de_var (pv 1)) (de_str pe_str)) (dss_one (ds_ret (de_t1 (cl_tupK K rfl) us_tup T.b_tuple (de_lc (own := [("_law_turn", 5)]) (g := (gName 5)) rfl nd (di_rng1 rfl T.b_range (da_cons' (de_call C__law_draw hG (hr.mono (by decide)) (passW (takes_of rfl rfl rfl rfl)) (fun _ _ => trivial) (du_cons (de_var (pv 0)) (du_cons (de_int pe_int) du_nil))) da_nil')) (blkOk_by (own := [("_law_turn", 5)]) (N := N__law_thing) (sc := defScope s__law_thing) (by decide +kernel)) (tin_name (by decide)) (fun _ _ _ _ _ => (dg_name (pg_name (i := 5) nd rfl (Or.inl rfl)))) (fun _ _ _ _ _ => dts_nil) (fun _ _ _ _ _ => (de_call C__law_pick hG (hr.mono (by decide)) passN (fun _ _ => trivial) (du_cons (de_var (pv 0)) (du_cons (de_lst (da_cons' (de_call C__law_draw hG (hr.mono (by decide)) passN (fun _ _ => trivial) (du_cons (de_var (pv 0)) (du_cons (de_int pe_int) du_nil))) (da_cons' (de_call C__law_draw hG (hr.mono (by decide)) passN (fun _ _ => trivial) (du_cons (de_var (pv 0)) (du_cons (de_int pe_int) du_nil))) da_nil'))) du_nil))))))))
 dss_nil)
 (dss_cons (ds_if (dt_cmp op_eq os_eqS (nomark _) (de_var (pv 1)) (de_str pe_str)) (dss_one (ds_ret (de_tup (da_cons' (de_call C__law_pick hG (hr.mono (by decide)) (passW (takes_of rfl rfl rfl rfl)) (fun _ _ => trivial) (du_cons (de_var (pv 0)) (du_cons (de_lst (da_cons' (de_non pe_non) (da_cons' (de_ix rfl (de_var (pv 2)) (de_int pe_int)) da_nil'))) du_nil))) (da_cons' (de_call C__law_pick hG (hr.mono (by decide)) (passW (takes_of rfl rfl rfl rfl)) (fun _ _ => trivial) (du_cons (de_var (pv 0)) (du_cons (de_lst (da_cons' (de_non pe_non) (da_cons' (de_call C__law_pick hG (hr.mono (by decide)) (passW (takes_of rfl rfl rfl rfl)) (fun _ _ => trivial) (du_cons (de_var (pv 0)) (du_cons (de_var (pv 2)) du_nil))) da_nil'))) du_nil))) da_nil')))))
 dss_nil)
 (dss_cons (ds_setLc (i := 3) (own := [("_law_key", 4)]) (g := (gName 4)) rfl nd rfl rfl (sw_true rfl rfl rfl (by decide +kernel)) (di_seq rfl (de_b1 (cr_sortedX rfl) us_sorted T.b_sorted (de_var (pv 2)))) (blkOk_by (own := [("_law_key", 4)]) (N := N__law_thing) (sc := defScope s__law_thing) (by decide +kernel)) (tin_name (by decide)) (fun _ _ _ _ _ => (dg_name (pg_name (i := 4) nd rfl (Or.inl rfl)))) (fun _ _ _ _ _ => dts_one (dt_cmp op_gtW os_gt (nomark _) (de_call C__law_draw hG (hr.mono (by decide)) passN (fun _ _ => trivial) (du_cons (de_var (pv 0)) (du_cons (de_int pe_int) du_nil))) (de_int pe_int))) (fun _ _ _ _ _ => (de_var (pv 4))))
 (dss_cons (ds_if (dt_cmp op_eq os_eqS (nomark _) (de_var (pv 1)) (de_str pe_str)) (dss_one (ds_ret (de_t1 (cl_tupK K rfl) us_tup T.b_tuple (de_lc (own := [("_law_key", 4)]) (g := (gName 4)) rfl nd (di_seq rfl (de_var (pv 3))) (blkOk_by (own := [("_law_key", 4)]) (N := N__law_thing) (sc := defScope s__law_thing) (by decide +kernel)) (tin_name (by decide)) (fun _ _ _ _ _ => (dg_name (pg_name (i := 4) nd rfl (Or.inl rfl)))) (fun _ _ _ _ _ => dts_nil) (fun _ _ _ _ _ => (de_tup (da_cons' (de_var (pv 4)) (da_cons' (de_call C__law_value hG (hr.mono (by decide)) passN (fun _ _ => trivial) (du_cons (de_var (pv 0)) du_nil)) da_nil'))))))))
 dss_nil)
 (dss_one (ds_ret (de_t1 (cl_tupK K rfl) us_tup T.b_tuple (de_lc (own := [("_law_key", 4)]) (g := (gName 4)) rfl nd (di_seq rfl (de_var (pv 3))) (blkOk_by (own := [("_law_key", 4)]) (N := N__law_thing) (sc := defScope s__law_thing) (by decide +kernel)) (tin_name (by decide)) (fun _ _ _ _ _ => (dg_name (pg_name (i := 4) nd rfl (Or.inl rfl)))) (fun _ _ _ _ _ => dts_nil) (fun _ _ _ _ _ => (de_tup (da_cons' (de_var (pv 4)) (da_cons' (de_call C__law_pick hG (hr.mono (by decide)) passN (fun _ _ => trivial) (du_cons (de_var (pv 0)) (du_cons (de_lst (da_cons' (de_non pe_non) (da_cons' (de_call C__law_value hG (hr.mono (by decide)) passN (fun _ _ => trivial) (du_cons (de_var (pv 0)) du_nil)) da_nil'))) du_nil))) da_nil')))))))))))))⟩

abbrev s__law_bent : Stmt := top 56
abbrev N__law_bent : List Str := ["_law_heap_here", "_law_octets", "_law_at", "_law_octet", "_law_form"]
theorem sc__law_bent : FnScope N__law_bent ["_law_heap_here", "_law_octets"] (defScope s__law_bent) := ⟨rfl, rfl, rfl, by decide +kernel, rfl, by decide +kernel, by decide +kernel⟩
def w__law_bent : WS := (wSeq (wParN [2, 3] (wnD (wCall pre__law_draw post__law_draw exc__law_draw (wuCons (wVar 0) (wuCons (wUn gLen (wVar 1)) wuNil))) (wnD (wCall pre__law_pick post__law_pick exc__law_pick (wuCons (wVar 0) (wuCons (wLst (waCons (wC (.int 0)) (waCons (wC (.int 1)) (waCons (wC (.int 2)) (waCons (wC (.int 3)) (waCons (wC (.int 48)) (waCons (wC (.int 95)) (waCons (wC (.int 97)) (waCons (wC (.int 128)) (waCons (wCall pre__law_draw post__law_draw exc__law_draw (wuCons (wVar 0) (wuCons (wC (.int 256)) wuNil))) waNil)))))))))) wuNil))) wnNil)))
 (wSeq (wSet 4 (wCall pre__law_draw post__law_draw exc__law_draw (wuCons (wVar 0) (wuCons (wC (.int 5)) wuNil))))
 (wSeq (wIfS (wTest (wOp gLt (wVar 4) (wC (.int 2)))) (wRet (wOp gAdd (wOp gAdd (wSl (wVar 1) woNone (woSome (wVar 2))) (wTup (waCons (wVar 3) waNil))) (wSl (wVar 1) (woSome (wOp gSub (wOp gAdd (wVar 2) (wC (.int 1))) (wVar 4))) woNone)))
 wNext)
 (wRet (wOp gIx (wLst (waCons (wOp gAdd (wSl (wVar 1) woNone (woSome (wVar 2))) (wSl (wVar 1) (woSome (wOp gAdd (wVar 2) (wC (.int 1)))) woNone)) (waCons (wSl (wVar 1) woNone (woSome (wVar 2))) (waCons (wOp gAdd (wVar 1) (wTup (waCons (wVar 3) waNil))) waNil)))) (wOp gSub (wVar 4) (wC (.int 2))))))))
def Go__law_bent : Prop := ∀ as, pre__law_bent as → w__law_bent (startS 5 as) ⟨fun _ => post__law_bent as .none, fun d _ => post__law_bent as d, fun _ => False, fun _ => False, fun c x _ => exc__law_bent as c x⟩
theorem ok__law_bent (go : Go__law_bent) (F : FnP K "_law_bent" s__law_bent f fd) (T : Fx mg) (C__law_pick : Ca5 P w K mg base (L2.CX P w) 2 "_law_pick" ["_law_heap_here", "_law_some"] (spU K (erL K) anyM pre__law_pick post__law_pick exc__law_pick)) (C__law_draw : Ca5 P w K mg base (L2.CX P w) 1 "_law_draw" ["_law_heap_here", "_law_many"] (spU K (erL K) anyM pre__law_draw post__law_draw exc__law_draw)) : FnG P w K mg base (L2.CX P w) 3 f fd ["_law_heap_here", "_law_octets"] (spU K (erL K) anyM pre__law_bent post__law_bent exc__law_bent) := by
  have nd := sc__law_bent.nd
  refine fn_w (ws := w__law_bent) F sc__law_bent len__law_bent (by decide) (fun cdv A out s H E hG hr => ?_) go
  exact ⟨_, (dss_cons (ds_parN (fun h => ps_par (i := 2) (j := 3) (by rfl) nd rfl rfl (by decide) rfl rfl h (by rfl)) (dn_d (de_call C__law_draw hG (hr.mono (by decide)) (passW (takes_of rfl rfl rfl rfl)) (fun _ _ => trivial) (du_cons (de_var (pv 0)) (du_cons (de_b1 (cl_lenK K rfl) us_len T.b_len (de_var (pv 1))) du_nil))) (dn_d (de_call C__law_pick hG (hr.mono (by decide)) (passW (takes_of rfl rfl rfl rfl)) (fun _ _ => trivial) (du_cons (de_var (pv 0)) (du_cons (de_lst (da_cons' (de_int pe_int) (da_cons' (de_int pe_int) (da_cons' (de_int pe_int) (da_cons' (de_int pe_int) (da_cons' (de_int pe_int) (da_cons' (de_int pe_int) (da_cons' (de_int pe_int) (da_cons' (de_int pe_int) (da_cons' (de_call C__law_draw hG (hr.mono (by decide)) (passW (takes_of rfl rfl rfl rfl)) (fun _ _ => trivial) (du_cons (de_var (pv 0)) (du_cons (de_int pe_int) du_nil))) da_nil')))))))))) du_nil))) dn_nil)))
 (dss_cons (ds_set (i := 4) nd rfl (Or.inl rfl) (de_call C__law_draw hG (hr.mono (by decide)) (passW (takes_of rfl rfl rfl rfl)) (fun _ _ => trivial) (du_cons (de_var (pv 0)) (du_cons (de_int pe_int) du_nil))))
 (dss_cons (ds_if (dt_cmp op_ltW os_lt (nomark _) (de_var (pv 4)) (de_int pe_int)) (dss_one (ds_ret (de_op (op_addW rfl) os_add (de_op (op_addW rfl) os_add (de_sl rfl (de_var (pv 1)) do_none (do_some (de_var (pv 2)))) (de_tup (da_cons' (de_var (pv 3)) da_nil'))) (de_sl rfl (de_var (pv 1)) (do_some (de_op op_sub os_sub (de_op (op_addW rfl) os_add (de_var (pv 2)) (de_int pe_int)) (de_var (pv 4)))) do_none))))
 dss_nil)
 (dss_one (ds_ret (de_ix rfl (de_lst (da_cons' (de_op (op_addW rfl) os_add (de_sl rfl (de_var (pv 1)) do_none (do_some (de_var (pv 2)))) (de_sl rfl (de_var (pv 1)) (do_some (de_op (op_addW rfl) os_add (de_var (pv 2)) (de_int pe_int))) do_none)) (da_cons' (de_sl rfl (de_var (pv 1)) do_none (do_some (de_var (pv 2)))) (da_cons' (de_op (op_addW rfl) os_add (de_var (pv 1)) (de_tup (da_cons' (de_var (pv 3)) da_nil'))) da_nil')))) (de_op op_sub os_sub (de_var (pv 4)) (de_int pe_int))))))))⟩


end
theorem cut_to (xs : List Int) (a : Nat) : cut (oD xs) none (some (a : Int)) = oD (xs.take a) := by rw [cut_oD, cutA_to]
theorem cut_fr (xs : List Int) (a : Nat) : cut (oD xs) (some (a : Int)) none = oD (xs.drop a) := by rw [cut_oD, cutA_from]
theorem oct_app {xs ys : List Int} (h : Oct xs) (g : Oct ys) : Oct (xs ++ ys) := fun x hx => by
  rcases List.mem_append.mp hx with hx | hx
  · exact h x hx
  · exact g x hx
theorem oct_take {xs : List Int} (h : Oct xs) (n : Nat) : Oct (xs.take n) := fun x hx => h x (List.mem_of_mem_take hx)
theorem oct_drop {xs : List Int} (h : Oct xs) (n : Nat) : Oct (xs.drop n) := fun x hx => h x (List.mem_of_mem_drop hx)
theorem oct_one {o : Int} (h : 0 ≤ o ∧ o < 256) : Oct [o] := fun x hx => by rw [List.mem_singleton.mp hx]; exact h
theorem eqv_str (x y : Str) : PyData.eqv (.str x) (.str y) = decide (x = y) := by
  unfold PyData.eqv
  by_cases h : x = y
  · subst h; simp
  · simp [h]
theorem any_strs (ks : List Str) (z : Str) : (ks.map PyData.str).any (fun y => PyData.eqv y (.str z)) = decide (z ∈ ks) := by
  rw [List.any_map]
  induction ks with
  | nil => rfl
  | cons k ks ih =>
    rw [List.any_cons, ih]
    show (PyData.eqv (.str k) (.str z) || _) = _
    rw [eqv_str]
    by_cases h : k = z
    · subst h; simp
    · by_cases g : z ∈ ks
      · simp [g]
      · have : ¬ z = k := fun e => h e.symm
        simp [g, h, this]
theorem keyS_ok {z : Str} (h : KeyS z) : PyData.strOk z = true := by
  unfold PyData.strOk
  rw [← Array.all_toList, List.all_eq_true]
  intro c hc
  have := List.all_eq_true.mp (show c_KEY_SIGNS.cps.toList.all (fun c => decide (c < 0x110000)) = true by decide +kernel) c (h.2.2 c hc)
  exact this
theorem sh_strs {ks : List Str} (h : ∀ k ∈ ks, KeyS k) : SeqAt.shaped (.list (ks.map PyData.str)) = true := by
  have : PyData.canLayAll0 (ks.map PyData.str) = true ∧ PyData.depthAll (ks.map PyData.str) = 0 := by
    induction ks with
    | nil => simp [PyData.canLayAll0, PyData.depthAll]
    | cons k ks ih =>
      obtain ⟨i1, i2⟩ := ih fun y hy => h y (List.mem_cons_of_mem _ hy)
      constructor
      · rw [List.map_cons, PyData.canLayAll0, i1, PyData.canLay0, keyS_ok (h k (List.mem_cons_self ..))]; rfl
      · rw [List.map_cons, PyData.depthAll, i2]; simp [PyData.depth]
  unfold SeqAt.shaped
  rw [PyData.canLay0, this.1, PyData.depth, this.2]
  rfl
theorem sh_str {z : Str} (h : KeyS z) : SeqAt.shaped (.str z) = true := by
  unfold SeqAt.shaped
  rw [PyData.canLay0, keyS_ok h]
  simp [PyData.depth]
theorem keyS_of {w : List Int} (h0 : w.length ≠ 0) (h1 : w.length ≤ 16) (h : InS c_KEY_SIGNS w) : KeyS (strOf w) := ⟨by rw [strOf_len]; exact h0, by rw [strOf_len]; exact h1, inS_mem h⟩
theorem strOf_app (w u : List Int) : strOf w ++ strOf u = strOf (w ++ u) := by
  show Str.mk _ = _
  unfold strOf
  congr 1
  apply Array.ext'
  simp
theorem lt_tri : ∀ a b : List Nat, a < b ∨ a = b ∨ b < a
  | [], [] => .inr (.inl rfl)
  | [], _ :: _ => .inl (List.nil_lt_cons ..)
  | _ :: _, [] => .inr (.inr (List.nil_lt_cons ..))
  | x :: a, y :: b => by
    rcases Nat.lt_trichotomy x y with h | h | h
    · exact .inl (List.cons_lt_cons_iff.mpr (.inl h))
    · subst h
      rcases lt_tri a b with g | g | g
      · exact .inl (List.cons_lt_cons_iff.mpr (.inr ⟨rfl, g⟩))
      · exact .inr (.inl (by rw [g]))
      · exact .inr (.inr (List.cons_lt_cons_iff.mpr (.inr ⟨rfl, g⟩)))
    · exact .inr (.inr (List.cons_lt_cons_iff.mpr (.inl h)))
theorem sLt_trans {x y z : Str} (h : sLt x y = true) (g : sLt y z = true) : sLt x z = true := by
  unfold sLt at h g ⊢
  exact decide_eq_true (List.lt_trans (of_decide_eq_true h) (of_decide_eq_true g))
theorem sLt_of {x y : Str} (h : ltCps y.cps.toList x.cps.toList = false) (n : x ≠ y) : sLt x y = true := by
  rw [ltCps_eq] at h
  have h := of_decide_eq_false h
  unfold sLt
  rcases lt_tri x.cps.toList y.cps.toList with g | g | g
  · exact decide_eq_true g
  · refine absurd ?_ n
    cases x
    cases y
    congr 1
    exact Array.toList_inj.mp g
  · exact absurd g h
theorem rise_from : ∀ {zs : List Str} {p : Str}, risingS p zs = true → (p :: zs).Nodup → (p :: zs).Pairwise fun a b => sLt a b = true
  | [], p, _, _ => List.pairwise_singleton ..
  | x :: zs, p, h, n => by
    unfold risingS at h
    rw [Bool.and_eq_true] at h
    have n2 := List.nodup_cons.mp n
    have ih := rise_from h.2 n2.2
    have hpx : sLt p x = true := sLt_of (by simpa using h.1) (fun e => n2.1 (by rw [e]; exact List.mem_cons_self ..))
    refine List.pairwise_cons.mpr ⟨fun y hy => ?_, ih⟩
    rcases List.mem_cons.mp hy with hy | hy
    · rw [hy]; exact hpx
    · exact sLt_trans hpx ((List.pairwise_cons.mp ih).1 y hy)
theorem rise_sorted {zs : List Str} (h : sortedS zs = true) (n : zs.Nodup) : zs.Pairwise fun a b => sLt a b = true := by
  cases zs with
  | nil => exact List.Pairwise.nil
  | cons p zs => exact rise_from h n
theorem strsOf_map (ks : List Str) : strsOf (ks.map PyData.str) = some ks := by
  induction ks with
  | nil => rfl
  | cons k ks ih => rw [List.map_cons]; show (strsOf (ks.map PyData.str)).map _ = _; rw [ih]; rfl
theorem strs_at {ks : List Str} {i : Nat} {d : PyData} (h : (ks.map PyData.str)[i]? = some d) : ∃ k, ks[i]? = some k ∧ d = .str k := by
  rw [List.getElem?_map] at h
  cases e : ks[i]? with
  | none => rw [e] at h; cases h
  | some k => rw [e] at h; cases h; exact ⟨k, rfl, rfl⟩
theorem go__law_bent : Go__law_bent := by
  rintro as ⟨xs, rfl, ho, hn, hl⟩
  unfold w__law_bent
  walk_at "go"
  have hz := sizeLine_eq
  have h0 : 0 < xs.length := List.length_pos_iff.mpr hn
  refine ⟨draw_ok (by omega) (by omega), draw_use fun a a0 a1 => ?_, fun _ _ z => z⟩
  obtain ⟨a, rfl⟩ := Int.eq_ofNat_of_zero_le a0
  refine ⟨draw_ok (by decide) (by decide), draw_use fun b b0 b1 => ?_, fun _ _ z => z⟩
  refine ⟨by decide, pick_ok (by simp) (show 9 < 2 ^ 20 by decide), pick_use (pick_ints (l := [0, 1, 2, 3, 48, 95, 97, 128, b]) fun o hj => ?_), fun _ _ z => z⟩
  have hb : 0 ≤ o ∧ o < 256 := by
    simp only [List.mem_cons, List.not_mem_nil, or_false] at hj
    omega
  walk_at "ds"
  refine ⟨draw_ok (by decide) (by decide), draw_use fun c c0 c1 => ?_, fun _ _ z => z⟩
  walk_at "ds"
  have ea : ((a : Nat) : Int) + 1 = ((a + 1 : Nat) : Int) := by omega
  have c3 : (c : Int) = 0 ∨ c = 1 ∨ c = 2 ∨ c = 3 ∨ c = 4 := by omega
  have l1 : (xs.take a).length ≤ xs.length := by rw [List.length_take]; omega
  have l2 : (xs.drop a).length ≤ xs.length := by rw [List.length_drop]; omega
  have l3 : (xs.drop (a + 1)).length ≤ xs.length := by rw [List.length_drop]; omega
  have p9 : (2 : Nat) ^ 9 = 512 ∧ (2 : Nat) ^ 10 = 1024 := by decide
  obtain ⟨p9, p10⟩ := p9
  have ho1 := oct_one hb
  have e1 : PyData.int o = PyData.int o := rfl
  rcases c3 with rfl | rfl | rfl | rfl | rfl
  · rw [if_pos (by decide), ea, Int.sub_zero, cut_to, cut_fr]
    show 1 ≤ sizeLine ∧ (oD (xs.take a)).length + 1 ≤ sizeLine ∧ (oD (xs.take a) ++ oD [o]).length + (oD (xs.drop (a + 1))).length ≤ sizeLine ∧ post__law_bent _ (.tuple (oD (xs.take a) ++ oD [o] ++ oD (xs.drop (a + 1))))
    rw [oD_app, oD_app, oD_len, oD_len, oD_len, List.length_append, List.length_singleton]
    exact ⟨by omega, by omega, by omega, _, rfl, oct_app (oct_app (oct_take ho a) ho1) (oct_drop ho _), by rw [List.length_append, List.length_append, List.length_singleton]; omega⟩
  · have e0 : ((a : Nat) : Int) + 1 - 1 = (a : Nat) := by omega
    rw [if_pos (by decide), e0, cut_to, cut_fr]
    show 1 ≤ sizeLine ∧ (oD (xs.take a)).length + 1 ≤ sizeLine ∧ (oD (xs.take a) ++ oD [o]).length + (oD (xs.drop a)).length ≤ sizeLine ∧ post__law_bent _ (.tuple (oD (xs.take a) ++ oD [o] ++ oD (xs.drop a)))
    rw [oD_app, oD_app, oD_len, oD_len, oD_len, List.length_append, List.length_singleton]
    exact ⟨by omega, by omega, by omega, _, rfl, oct_app (oct_app (oct_take ho a) ho1) (oct_drop ho _), by rw [List.length_append, List.length_append, List.length_singleton]; omega⟩
  · rw [if_neg (by decide)]
    walk_at "dt"
    rw [ea, cut_to, cut_fr]
    refine ⟨by rw [oD_len, oD_len]; omega, by omega, by omega, by omega, .tuple (oD (xs.take a) ++ oD (xs.drop (a + 1))), DL.atI_nat (k := 0) rfl, xs.take a ++ xs.drop (a + 1), by rw [oD_app], oct_app (oct_take ho a) (oct_drop ho _), by rw [List.length_append]; omega⟩
  · rw [if_neg (by decide)]
    walk_at "dt"
    rw [ea, cut_to, cut_fr]
    refine ⟨by rw [oD_len, oD_len]; omega, by omega, by omega, by omega, .tuple (oD (xs.take a)), DL.atI_nat (k := 1) rfl, xs.take a, rfl, oct_take ho a, by omega⟩
  · rw [if_neg (by decide)]
    walk_at "dt"
    rw [ea, cut_to, cut_fr]
    refine ⟨by rw [oD_len, oD_len]; omega, by omega, by omega, by omega, .tuple (oD xs ++ oD [o]), DL.atI_nat (k := 2) rfl, xs ++ [o], by rw [oD_app], oct_app ho ho1, by rw [List.length_append, List.length_singleton]; omega⟩
theorem go__law_keys : Go__law_keys := by
  rintro as ⟨n, rfl, hn, hn2⟩
  unfold w__law_keys
  walk_at "go"
  have hz := sizeLine_eq
  refine ⟨by decide, pick_ok (by decide) (by decide), pick_use (pick_ints (l := [0, 0, 1, 2, 15]) fun j hj => ?_), fun _ _ z => z⟩
  have hb : 0 ≤ j ∧ j ≤ 15 := by
    have := List.all_eq_true.mp (show [0, 0, 1, 2, 15].all (fun j : Int => decide (0 ≤ j ∧ j ≤ 15)) = true by decide) j hj
    simpa using this
  walk_at "dw"
  refine ⟨⟨by omega, by omega⟩, by rw [rngD_len]; omega, fun i acc s => s = [some .drw, some (.d (.int n)), some (.d (.str c_KEY_SIGNS)), none, none, none, none, none, none] ∧ ∃ w, acc = w.map oneS ∧ w.length = i ∧ InS c_KEY_SIGNS w, ⟨rfl, [], rfl, rfl, fun _ z => absurd z List.not_mem_nil⟩, ?_, ?_⟩
  · rintro i d acc s2 hd ⟨rfl, w, rfl, hw, hi⟩
    walk_at "dw"
    refine ⟨pick_okS (by decide) (by decide), pick_useS fun c hc => ?_, fun _ _ z => z⟩
    exact ⟨w ++ [(c : Int)], by rw [List.map_append]; rfl, by rw [List.length_append, List.length_singleton, hw], inS_snoc hi hc⟩
  · rintro acc s2 ⟨rfl, w, rfl, hw, hi⟩
    rw [rngD_len] at hw
    refine ⟨_, _, _, rfl, .inl rfl, strsOf_ones w, ?_, ?_⟩
    · rw [sum_ones]
      have : (Str.ofString "").length = 0 := rfl
      rw [this]; omega
    · rw [join_ones]
      walk_at "dw"
      refine ⟨draw_ok (by decide) (by decide), draw_use fun f f0 f1 => ⟨by decide, pick_ok (by decide) (by decide), pick_use (pick_ints (l := [1, 2, 5, 11]) fun s hs => ?_), fun _ _ z => z⟩, fun _ _ z => z⟩
      have hs2 : 1 ≤ s ∧ s ≤ 11 := by
        have := List.all_eq_true.mp (show [1, 2, 5, 11].all (fun j : Int => decide (1 ≤ j ∧ j ≤ 11)) = true by decide) s hs
        simpa using this
      walk_at "dt"
      refine ⟨by decide, ?_⟩
      walk_at "dt"
      refine ⟨⟨by omega, by omega⟩, fun i st => ∃ (ks : List Str) (v7 v8 : Option SV), st = [some .drw, some (.d (.int n)), some (.d (.str c_KEY_SIGNS)), some (.d (.str (strOf w))), some (.d (.int f)), some (.d (.int s)), some (.own (ks.map .str)), v7, v8] ∧ ks.Nodup ∧ (∀ k ∈ ks, KeyS k) ∧ ks.length ≤ i ∧ (0 < i → ks ≠ []), ⟨[], none, none, rfl, List.nodup_nil, (fun _ z => absurd z List.not_mem_nil), Nat.le_refl _, fun z => absurd z (Nat.lt_irrefl _)⟩, ?_, ?_⟩
      · rintro i d s2 hd ⟨ks, v7, v8, rfl, k1, k2, k3, k4⟩
        obtain ⟨rfl, hk⟩ := rngD_at hd
        walk_at "dw"
        have hi4 : i < 4 := by omega
        have hlen : c_KEY_SIGNS.cps.toList.length = 37 := by decide +kernel
        obtain ⟨m, hm, hm2⟩ : ∃ m : Nat, (f + s * (0 + (i : Nat))) % 37 = (m : Int) ∧ m < 37 := ⟨((f + s * (0 + (i : Nat))) % 37).toNat, by omega, by omega⟩
        rw [hm]
        have hm3 := List.getElem?_eq_getElem (l := c_KEY_SIGNS.cps.toList) (i := m) (by omega)
        have hc := List.mem_of_getElem? hm3
        generalize c_KEY_SIGNS.cps.toList[m]'(by omega) = c at hm3 hc
        refine ⟨cmul_small (by omega) (by omega), by decide, by rw [hz]; decide, c, L2.atI_nat hm3, by rw [strOf_len]; omega, ?_⟩
        rw [show strOf w ++ (⟨#[c]⟩ : Str) = strOf (w ++ [(c : Int)]) from strOf_snoc w (c : Int)]
        have hi1 := inS_snoc hi hc
        have hl1 : (w ++ [(c : Int)]).length = w.length + 1 := by rw [List.length_append, List.length_singleton]
        generalize w ++ [(c : Int)] = w1 at hi1 hl1
        have hz0 : KeyS (strOf w1) := keyS_of (by omega) (by omega) hi1
        walk_at "dt"
        refine ⟨by rw [strOf_len]; omega, ?_⟩
        rw [strOf_len]
        split
        · rename_i c14
          refine ⟨draw_ok (by decide) (by decide), draw_use fun e e0 e1 => ?_, fun _ _ z => z⟩
          walk_at "dt"
          split
          · refine ⟨pick_okS (by decide) (by decide), pick_useS fun c2 hc2 => ?_, fun _ _ z => z⟩
            walk_at "dw"
            rw [show strOf w1 ++ (⟨#[c2]⟩ : Str) = strOf (w1 ++ [(c2 : Int)]) from strOf_snoc w1 (c2 : Int), strOf_len]
            have hi2 := inS_snoc hi1 hc2
            have hl2 : (w1 ++ [(c2 : Int)]).length = w1.length + 1 := by rw [List.length_append, List.length_singleton]
            generalize w1 ++ [(c2 : Int)] = w2 at hi2 hl2
            refine ⟨by omega, by decide, pick_ok (by simp) (by decide), pick_use fun x hx => ?_, fun _ _ z => z⟩
            obtain ⟨u, rfl, hu, hiu⟩ : ∃ u : List Int, x = .str (strOf u) ∧ u.length ≤ 1 ∧ InS c_KEY_SIGNS u := by
              simp only [List.mem_cons, List.not_mem_nil, or_false] at hx
              rcases hx with rfl | rfl | rfl
              · exact ⟨[], rfl, by decide, fun _ z => absurd z List.not_mem_nil⟩
              · exact ⟨[95], rfl, by decide, fun o ho => ⟨95, by decide +kernel, List.mem_singleton.mp ho⟩⟩
              · exact ⟨[48], rfl, by decide, fun o ho => ⟨48, by decide +kernel, List.mem_singleton.mp ho⟩⟩
            have hl3 : (w2 ++ u).length = w2.length + u.length := List.length_append
            have hi3 : InS c_KEY_SIGNS (w2 ++ u) := fun o ho => by
              rcases List.mem_append.mp ho with ho | ho
              · exact hi2 o ho
              · exact hiu o ho
            walk_at "dw"
            rw [strOf_app, strOf_len, strOf_len]
            generalize w2 ++ u = w3 at hl3 hi3
            have hz0 : KeyS (strOf w3) := keyS_of (by omega) (by omega) hi3
            refine ⟨by omega, ?_⟩
            walk_at "dt"
            rw [any_strs]
            refine ⟨sh_str hz0, sh_strs k2, ?_⟩
            refine ite_use (fun c => ?_) fun c => ?_
            · try walk_at "dw"
              refine ⟨⟨_, rfl⟩, by rw [List.length_map]; omega, ks ++ [strOf w3], _, _, by rw [List.map_append]; rfl, ?_, ?_, by rw [List.length_append, List.length_singleton]; omega, fun _ => by simp⟩
              · have hn : strOf w3 ∉ ks := by simpa using c
                exact List.nodup_append.mpr ⟨k1, by simp, fun x hx y hy e => hn (by rw [← List.mem_singleton.mp hy, ← e]; exact hx)⟩
              · intro k hk
                rcases List.mem_append.mp hk with hk | hk
                · exact k2 k hk
                · rw [List.mem_singleton.mp hk]; exact hz0
            · refine ⟨ks, _, _, rfl, k1, k2, by omega, fun _ e => ?_⟩
              rw [e] at c
              exact c rfl
          · walk_at "dt"
            rw [any_strs]
            refine ⟨sh_str hz0, sh_strs k2, ?_⟩
            refine ite_use (fun c => ?_) fun c => ?_
            · try walk_at "dw"
              refine ⟨⟨_, rfl⟩, by rw [List.length_map]; omega, ks ++ [strOf w1], _, _, by rw [List.map_append]; rfl, ?_, ?_, by rw [List.length_append, List.length_singleton]; omega, fun _ => by simp⟩
              · have hn : strOf w1 ∉ ks := by simpa using c
                exact List.nodup_append.mpr ⟨k1, by simp, fun x hx y hy e => hn (by rw [← List.mem_singleton.mp hy, ← e]; exact hx)⟩
              · intro k hk
                rcases List.mem_append.mp hk with hk | hk
                · exact k2 k hk
                · rw [List.mem_singleton.mp hk]; exact hz0
            · refine ⟨ks, _, _, rfl, k1, k2, by omega, fun _ e => ?_⟩
              rw [e] at c
              exact c rfl
        · walk_at "dt"
          rw [any_strs]
          refine ⟨sh_str hz0, sh_strs k2, ?_⟩
          refine ite_use (fun c => ?_) fun c => ?_
          · try walk_at "dw"
            refine ⟨⟨_, rfl⟩, by rw [List.length_map]; omega, ks ++ [strOf w1], _, _, by rw [List.map_append]; rfl, ?_, ?_, by rw [List.length_append, List.length_singleton]; omega, fun _ => by simp⟩
            · have hn : strOf w1 ∉ ks := by simpa using c
              exact List.nodup_append.mpr ⟨k1, by simp, fun x hx y hy e => hn (by rw [← List.mem_singleton.mp hy, ← e]; exact hx)⟩
            · intro k hk
              rcases List.mem_append.mp hk with hk | hk
              · exact k2 k hk
              · rw [List.mem_singleton.mp hk]; exact hz0
          · refine ⟨ks, _, _, rfl, k1, k2, by omega, fun _ e => ?_⟩
            rw [e] at c
            exact c rfl
      · rintro s2 ⟨ks, v7, v8, rfl, k1, k2, k3, k4⟩
        rw [rngD_len] at k3 k4
        walk_at "ds"
        exact ⟨ks, rfl, k4 (by omega), k1, by omega, k2⟩
theorem go__law_thing : Go__law_thing := by
  rintro as ⟨w, rfl, hw⟩
  unfold w__law_thing
  have hz := sizeLine_eq
  rcases hw with rfl | rfl | rfl | rfl
  · walk_at "go"
    refine ⟨draw_ok (by decide) (by decide), draw_use fun a a0 a1 => ?_, fun _ _ z => z⟩
    refine ⟨⟨_, rfl, by omega, by omega⟩, ?_, fun _ _ z => z⟩
    rintro d ⟨ks, rfl, k1, k2, k3, k4⟩
    walk_at "dt"
    refine ⟨draw_ok (by decide) (by decide), draw_use fun j j0 j1 => ?_, fun _ _ z => z⟩
    walk_at "dw"
    refine ⟨⟨by omega, by omega⟩, by rw [rngD_len]; omega, fun i acc s => s = [some .drw, some (.d (.str wN)), some (.d (.list (ks.map .str))), none, none, none] ∧ ∃ ns, acc = oD ns ∧ ns.length = i ∧ ∀ n ∈ ns, 0 ≤ n ∧ n < 99999, ⟨rfl, [], rfl, rfl, fun _ z => absurd z List.not_mem_nil⟩, ?_, ?_⟩
    · rintro i d acc s2 hd ⟨rfl, ns, rfl, hn, hb⟩
      walk_at "dw"
      refine ⟨draw_ok (by decide) (by decide), draw_use fun b b0 b1 => ⟨draw_ok (by decide) (by decide), draw_use fun c c0 c1 => ?_, fun _ _ z => z⟩, fun _ _ z => z⟩
      try walk_at "dw"
      refine ⟨by decide, pick_ok (by simp) (show 2 < 2 ^ 20 by decide), pick_use (pick_ints (l := [b, c]) fun o ho => ?_), fun _ _ z => z⟩
      try walk_at "dw"
      refine ⟨ns ++ [o], by rw [← oD_app]; rfl, by rw [List.length_append, List.length_singleton, hn], fun n hn => ?_⟩
      rcases List.mem_append.mp hn with hn | hn
      · exact hb n hn
      · rw [List.mem_singleton.mp hn]
        simp only [List.mem_cons, List.not_mem_nil, or_false] at ho
        omega
    · rintro acc s2 ⟨rfl, ns, rfl, hn, hb⟩
      rw [rngD_len] at hn
      exact ⟨wN, rfl, .inl ⟨rfl, ns, rfl, by omega, hb⟩⟩
  · walk_at "go"
    refine ⟨draw_ok (by decide) (by decide), draw_use fun a a0 a1 => ?_, fun _ _ z => z⟩
    refine ⟨⟨_, rfl, by omega, by omega⟩, ?_, fun _ _ z => z⟩
    rintro d ⟨ks, rfl, k1, k2, k3, k4⟩
    walk_at "dt"
    rw [if_neg (by decide)]
    walk_at "dt"
    cases ks with
    | nil => exact absurd rfl k1
    | cons k0 r =>
      have e0 : ∀ x : PyData, x ∈ [PyData.none, PyData.str k0] → EndS x := fun x hx => by
        simp only [List.mem_cons, List.not_mem_nil, or_false] at hx
        rcases hx with rfl | rfl
        · exact .inl rfl
        · exact .inr ⟨k0, rfl, k4 k0 (List.mem_cons_self ..)⟩
      refine ⟨.str k0, at0, by decide, pick_ok (by simp) (show 2 < 2 ^ 20 by decide), pick_use fun lo hlo => ?_, fun _ _ z => z⟩
      try walk_at "dw"
      refine ⟨pick_ok (by simp) (by rw [List.length_map]; omega), pick_use fun k hk => ?_, fun _ _ z => z⟩
      obtain ⟨k', hk', rfl⟩ := List.mem_map.mp hk
      try walk_at "dw"
      refine ⟨by decide, pick_ok (by simp) (show 2 < 2 ^ 20 by decide), pick_use fun hi hhi => ?_, fun _ _ z => z⟩
      try walk_at "dw"
      refine ⟨by decide, wR, rfl, .inr (.inl ⟨rfl, lo, hi, rfl, e0 lo hlo, ?_⟩)⟩
      simp only [List.mem_cons, List.not_mem_nil, or_false] at hhi
      rcases hhi with rfl | rfl
      · exact .inl rfl
      · exact .inr ⟨k', rfl, k4 k' hk'⟩
  · walk_at "go"
    refine ⟨draw_ok (by decide) (by decide), draw_use fun a a0 a1 => ?_, fun _ _ z => z⟩
    refine ⟨⟨_, rfl, by omega, by omega⟩, ?_, fun _ _ z => z⟩
    rintro d ⟨ks, rfl, k1, k2, k3, k4⟩
    walk_at "dt"
    rw [if_neg (by decide)]
    walk_at "dt"
    rw [if_neg (by decide)]
    walk_at "dt"
    refine ⟨_, rfl, .inr ⟨ks, strsOf_map ks, by omega, fun zs hp hs => ?_⟩⟩
    have hn : zs.Nodup := hp.nodup_iff.mpr k2
    have hr := rise_sorted hs hn
    have hlz : zs.length ≤ 4 := by rw [hp.length_eq]; exact k3
    have hkz : ∀ k ∈ zs, KeyS k := fun k hk => k4 k (hp.mem_iff.mp hk)
    try walk_at "dw"
    refine ⟨by rw [List.length_map]; omega, fun i acc s => s = [some .drw, some (.d (.str wE)), some (.d (.list (ks.map .str))), none, none, none] ∧ ∃ us : List Str, acc = us.map .str ∧ us.Sublist (zs.take i), ⟨rfl, [], rfl, List.nil_sublist _⟩, ?_, ?_⟩
    · rintro i d acc s2 hd ⟨rfl, us, rfl, hu⟩
      obtain ⟨k, hk, rfl⟩ := strs_at hd
      walk_at "dw"
      refine ⟨draw_ok (by decide) (by decide), draw_use fun b b0 b1 => ?_, fun _ _ z => z⟩
      try walk_at "dw"
      have ht : zs.take (i + 1) = zs.take i ++ [k] := by rw [List.take_add_one, hk]; rfl
      split
      · exact ⟨us ++ [k], by rw [List.map_append]; rfl, by rw [ht]; exact hu.append (List.Sublist.refl _)⟩
      · exact ⟨us, rfl, by rw [ht]; exact hu.trans (List.sublist_append_left ..)⟩
    · rintro acc s2 ⟨rfl, us, rfl, hu⟩
      rw [List.length_map, List.take_length] at hu
      have hul := hu.length_le
      walk_at "dt"
      refine ⟨by rw [List.length_map]; omega, fun i acc s => s = [some .drw, some (.d (.str wE)), some (.d (.list (ks.map .str))), some (.d (.list (us.map .str))), none, none] ∧ ∃ ps : List (Str × PyData), acc = ps.map prD ∧ ps.map (·.1) = us.take i ∧ ∀ p ∈ ps, ValS p.2, ⟨rfl, [], rfl, rfl, fun _ z => absurd z List.not_mem_nil⟩, ?_, ?_⟩
      · rintro i d acc s2 hd ⟨rfl, ps, rfl, hp1, hp2⟩
        obtain ⟨k, hk, rfl⟩ := strs_at hd
        walk_at "dw"
        refine ⟨rfl, fun v hv => ?_, fun _ _ z => z⟩
        try walk_at "dw"
        refine ⟨by decide, ps ++ [(k, v)], by rw [List.map_append]; rfl, by rw [List.map_append, hp1, List.take_add_one, hk]; rfl, fun p hp => ?_⟩
        rcases List.mem_append.mp hp with hp | hp
        · exact hp2 p hp
        · rw [List.mem_singleton.mp hp]; exact hv
      · rintro acc s2 ⟨rfl, ps, rfl, hp1, hp2⟩
        rw [List.length_map, List.take_length] at hp1
        try walk_at "dw"
        refine ⟨wE, rfl, .inr (.inr (.inl ⟨rfl, ps, rfl, ?_, ?_, fun p hp => ⟨?_, hp2 p hp⟩⟩))⟩
        · have := congrArg List.length hp1
          rw [List.length_map] at this
          omega
        · unfold Rise
          rw [hp1]
          exact hr.sublist hu
        · refine hkz _ (hu.subset ?_)
          rw [← hp1]
          exact List.mem_map_of_mem hp
  · walk_at "go"
    refine ⟨draw_ok (by decide) (by decide), draw_use fun a a0 a1 => ?_, fun _ _ z => z⟩
    refine ⟨⟨_, rfl, by omega, by omega⟩, ?_, fun _ _ z => z⟩
    rintro d ⟨ks, rfl, k1, k2, k3, k4⟩
    walk_at "dt"
    rw [if_neg (by decide)]
    walk_at "dt"
    rw [if_neg (by decide)]
    walk_at "dt"
    refine ⟨_, rfl, .inr ⟨ks, strsOf_map ks, by omega, fun zs hp hs => ?_⟩⟩
    have hn : zs.Nodup := hp.nodup_iff.mpr k2
    have hr := rise_sorted hs hn
    have hlz : zs.length ≤ 4 := by rw [hp.length_eq]; exact k3
    have hkz : ∀ k ∈ zs, KeyS k := fun k hk => k4 k (hp.mem_iff.mp hk)
    try walk_at "dw"
    refine ⟨by rw [List.length_map]; omega, fun i acc s => s = [some .drw, some (.d (.str wW)), some (.d (.list (ks.map .str))), none, none, none] ∧ ∃ us : List Str, acc = us.map .str ∧ us.Sublist (zs.take i), ⟨rfl, [], rfl, List.nil_sublist _⟩, ?_, ?_⟩
    · rintro i d acc s2 hd ⟨rfl, us, rfl, hu⟩
      obtain ⟨k, hk, rfl⟩ := strs_at hd
      walk_at "dw"
      refine ⟨draw_ok (by decide) (by decide), draw_use fun b b0 b1 => ?_, fun _ _ z => z⟩
      try walk_at "dw"
      have ht : zs.take (i + 1) = zs.take i ++ [k] := by rw [List.take_add_one, hk]; rfl
      split
      · exact ⟨us ++ [k], by rw [List.map_append]; rfl, by rw [ht]; exact hu.append (List.Sublist.refl _)⟩
      · exact ⟨us, rfl, by rw [ht]; exact hu.trans (List.sublist_append_left ..)⟩
    · rintro acc s2 ⟨rfl, us, rfl, hu⟩
      rw [List.length_map, List.take_length] at hu
      have hul := hu.length_le
      walk_at "dt"
      rw [if_neg (by decide)]
      walk_at "dt"
      refine ⟨by rw [List.length_map]; omega, fun i acc s => s = [some .drw, some (.d (.str wW)), some (.d (.list (ks.map .str))), some (.d (.list (us.map .str))), none, none] ∧ ∃ ps : List (Str × PyData), acc = ps.map prD ∧ ps.map (·.1) = us.take i ∧ ∀ p ∈ ps, (p.2 = .none ∨ ValS p.2), ⟨rfl, [], rfl, rfl, fun _ z => absurd z List.not_mem_nil⟩, ?_, ?_⟩
      · rintro i d acc s2 hd ⟨rfl, ps, rfl, hp1, hp2⟩
        obtain ⟨k, hk, rfl⟩ := strs_at hd
        walk_at "dw"
        refine ⟨rfl, fun v hv => ?_, fun _ _ z => z⟩
        try walk_at "dw"
        refine ⟨by decide, pick_ok (by simp) (show 2 < 2 ^ 20 by decide), pick_use fun x hx => ?_, fun _ _ z => z⟩
        try walk_at "dw"
        refine ⟨by decide, ps ++ [(k, x)], by rw [List.map_append]; rfl, by rw [List.map_append, hp1, List.take_add_one, hk]; rfl, fun p hp => ?_⟩
        rcases List.mem_append.mp hp with hp | hp
        · exact hp2 p hp
        · rw [List.mem_singleton.mp hp]
          simp only [List.mem_cons, List.not_mem_nil, or_false] at hx
          rcases hx with rfl | rfl
          · exact .inl rfl
          · exact .inr hv
      · rintro acc s2 ⟨rfl, ps, rfl, hp1, hp2⟩
        rw [List.length_map, List.take_length] at hp1
        try walk_at "dw"
        refine ⟨wW, rfl, .inr (.inr (.inr ⟨rfl, ps, rfl, ?_, ?_, fun p hp => ⟨?_, hp2 p hp⟩⟩))⟩
        · have := congrArg List.length hp1
          rw [List.length_map] at this
          omega
        · unfold Rise
          rw [hp1]
          exact hr.sublist hu
        · refine hkz _ (hu.subset ?_)
          rw [← hp1]
          exact List.mem_map_of_mem hp
end K04

namespace K04
open PySem PySem.Spec
open PyProof.Rows L2 DL DW
local macro_rules | `(tactic| walk_at "dw0") => `(tactic| simp only [DW.startS, DW.AV.sv, List.map_cons, List.map_nil, List.length_cons, List.length_nil, List.replicate_succ, List.replicate_zero, List.cons_append, List.nil_append, Nat.reduceAdd, Nat.reduceSub])
local macro_rules | `(tactic| walk_at "dw") => `(tactic| simp only [DW.wSeq, DW.wNext, DW.wIfS, DW.wRet, DW.wRetN, DW.wBreak, DW.wCont, DW.wSet, DW.wAsg, DW.wNew, DW.wNewL, DW.wNewC, DW.wExpr, DW.wApp, DW.wExt, DW.wExtA, DW.wPop, DW.wAug, DW.wRaise, DW.wVar, DW.wC, DW.wRaw, DW.wOp, DW.wUn, DW.waNil, DW.waCons, DW.wCB, DW.wTup, DW.wLst, DW.wTest, DW.wYes, DW.wAnd, DW.wOr, DW.wNot, DW.wTr, DW.gTr, DW.wAndV, DW.wOrV, DW.wNotV, DW.wIf, DW.rdq, DW.frz, DW.asg, DW.avf, DW.wuNil, DW.wuCons, DW.wCall, DW.wCallK, DW.wgName, DW.wgTup, DW.wgCons, DW.wgNil,
  DW.wParN, DW.wnNil, DW.wnD, DW.wnNew, DW.asgN, DW.gAdd, DW.gSub, DW.gMul, DW.gMod, DW.gDiv, DW.gPow, DW.gLt, DW.gLe, DW.gGt, DW.gGe, DW.gEq, DW.gNe, DW.gEqS, DW.gNeS, DW.pick, List.filterMap_cons, List.filterMap_nil, DW.gInB, DW.gIs, DW.gIsNot, DW.gIx, DW.gNeg, DW.gLen, DW.gToT, DW.gToL, DW.gInt, DW.gAbs, DW.gRepr, DW.gMin2, DW.gMax2, DW.gOrd, DW.gStr, DW.gAddI, DW.gSubI, DW.gIsB, DW.gIsntB, DW.gRep, DW.gSorted, DW.wJoin, DW.gJoin, DW.wIndex, DW.gIndex, DW.wRg1, DW.wRg2, DW.LT.mk, DW.wiSeq, DW.wiRng1, DW.wiRng2, DW.wiRngB, DW.wiEnumX, DW.wiEnum, DW.wipeS, DL.truth, DL.isNo, DW.wIsi, DW.wChain, DW.wSl, DW.gSl, DW.gRev, DW.woNone, DW.woSome, DW.wFor_eq, DW.wLc_eq, DW.wNewLc_eq, DW.one_ord, DW.one_len, DL.oD_len,
  DW.eqv_int, DW.sh_intT, true_and, List.getElem?_cons_zero, List.getElem?_cons_succ, List.set_cons_zero, List.set_cons_succ, List.length_cons, List.length_nil, if_true, if_false, decide_eq_true_eq, Bool.false_eq_true, reduceIte, List.cons_append, List.nil_append, Nat.reduceAdd, Bool.not_true, Bool.not_false])
local macro_rules | `(tactic| walk_at "ds") => `(tactic| repeat ((with_reducible refine DW.Kt_i ?_); (walk_at "dw")))
local macro_rules | `(tactic| walk_at "go") => `(tactic| ((walk_at "dw0"); (walk_at "dw"); (walk_at "ds")))
local macro_rules | `(tactic| walk_at "dt") => `(tactic| ((try walk_at "dw"); (walk_at "ds")))
/-! ### what is written is read, anything ahead and behind -/
theorem at_len {A B : List Int} {o : Int} : (A ++ (o :: B))[A.length]? = some o := by
  rw [List.getElem?_append_right (Nat.le_refl _), Nat.sub_self]
  rfl
theorem app3 (A e B : List Int) : A ++ (e ++ B) = (A ++ e) ++ B := (List.append_assoc A e B).symm
theorem goNums_read : ∀ {ns : List Int} {A B acc : List Int}, (∀ n ∈ ns, 0 ≤ n ∧ n < 2 ^ 63) → goNums (A ++ ((ns.flatMap fun n => figsN n.toNat) ++ B)) ns.length A.length acc = .ok (.tuple (oD (acc ++ ns))) (A.length + (ns.flatMap fun n => figsN n.toNat).length)
  | [], A, B, acc, _ => by unfold goNums; rw [List.append_nil]; rfl
  | n :: ns, A, B, acc, h => by
    obtain ⟨h0, h1⟩ := h n (List.mem_cons_self ..)
    obtain ⟨m, rfl⟩ := Int.eq_ofNat_of_zero_le h0
    have p := p9
    have ih := goNums_read (ns := ns) (A := A ++ figsN m) (B := B) (acc := acc ++ [(m : Int)]) fun x hx => h x (List.mem_cons_of_mem _ hx)
    rw [List.flatMap_cons, List.length_cons]
    have e0 : ((m : Nat) : Int).toNat = m := by omega
    rw [e0, List.append_assoc]
    unfold goNums
    rw [getN_figs A _ (by omega)]
    dsimp only
    rw [app3 A (figsN m), ← List.length_append, ih, List.append_assoc acc, List.length_append, List.length_append, Nat.add_assoc]
    rfl
theorem rdNums_read {ns A B : List Int} (hl : ns.length < 2 ^ 63) (h : ∀ n ∈ ns, 0 ≤ n ∧ n < 2 ^ 63) : rdNums (A ++ (encNums ns ++ B)) A.length = .ok (.tuple (oD ns)) (A.length + (encNums ns).length) := by
  have p := p9
  unfold rdNums encNums
  rw [List.append_assoc, getN_figs A _ (by omega)]
  dsimp only
  have e0 : ((ns.length : Nat) : Int).toNat = ns.length := by omega
  rw [e0, app3 A (figsN ns.length), ← List.length_append, goNums_read h, List.length_append, List.length_append, Nat.add_assoc]
  rfl
theorem strOf_codes (z : Str) : strOf (codes z) = z := by
  unfold strOf codes
  cases z with
  | mk c =>
    congr 1
    apply Array.ext'
    show List.map Int.toNat (List.map (fun c : Nat => (c : Int)) c.toList) = c.toList
    rw [List.map_map]
    exact (List.map_congr_left fun x _ => Int.toNat_natCast x).trans (List.map_id _)
theorem key_code {z : Str} (h : KeyS z) : ∀ o ∈ codes z, o ≠ 0 ∧ isKeyC o = true := fun o ho => by
  unfold codes at ho
  obtain ⟨c, hc, rfl⟩ := List.mem_map.mp ho
  have hm := h.2.2 c hc
  have h1 := List.all_eq_true.mp (show c_KEY_SIGNS.cps.toList.all (fun c => decide (c ≠ 0)) = true by decide +kernel) c hm
  refine ⟨by have := of_decide_eq_true h1; omega, ?_⟩
  exact List.any_eq_true.mpr ⟨c, hm, decide_eq_true rfl⟩
theorem keyAt_read {z : Str} {A B : List Int} (h : KeyS z) : keyAt (A ++ (encKey z ++ B)) A.length = some (z, A.length + (encKey z).length) := by
  have hw : wordAt (A ++ (encKey z ++ B)) A.length = codes z := by
    unfold wordAt encKey
    rw [List.drop_left, List.append_assoc, List.takeWhile_append_of_pos (fun o ho => by simpa using (key_code h o ho).1)]
    show codes z ++ List.takeWhile _ (0 :: B) = _
    rw [List.takeWhile_cons_of_neg (by simp), List.append_nil]
  have hl : (codes z).length = z.length := codes_len z
  have hk := keyAt_some hw (by
    rw [List.length_append, List.length_append]
    unfold encKey
    rw [List.length_append, List.length_singleton]
    omega) (by intro e; rw [e] at hl; exact h.1 hl.symm) (List.all_eq_true.mpr fun o ho => (key_code h o ho).2) (by rw [hl]; exact h.2.1)
  rw [hk, strOf_codes]
  unfold encKey
  rw [List.length_append, List.length_singleton, Nat.add_assoc]
theorem text_code {z : Str} (h : TextS z) : ∀ o ∈ codes z, isTextC o = true := fun o ho => by
  unfold codes at ho
  obtain ⟨c, hc, rfl⟩ := List.mem_map.mp ho
  rw [← lawT_any]
  exact List.any_eq_true.mpr ⟨c, h.2 c hc, decide_eq_true rfl⟩
theorem goText_read : ∀ {u A B w : List Int}, (∀ o ∈ u, isTextC o = true) → goText (A ++ (u ++ B)) u.length A.length w = .ok (.str (strOf (w ++ u))) (A.length + u.length)
  | [], A, B, w, _ => by unfold goText; rw [List.append_nil]; rfl
  | o :: u, A, B, w, h => by
    have ih := goText_read (u := u) (A := A ++ [o]) (B := B) (w := w ++ [o]) fun x hx => h x (List.mem_cons_of_mem _ hx)
    rw [List.length_cons]
    unfold goText
    rw [List.cons_append, at_len]
    dsimp only
    rw [if_pos (h o (List.mem_cons_self ..))]
    have e1 : A ++ o :: (u ++ B) = (A ++ [o]) ++ (u ++ B) := by rw [List.append_assoc]; rfl
    have e2 : A.length + 1 = (A ++ [o]).length := by rw [List.length_append]; rfl
    rw [e1, e2, ih, List.append_assoc]
    congr 1
    rw [List.length_append, List.length_singleton]
    omega
theorem rdText_read {z : Str} {A B : List Int} (h : TextS z) : rdText (A ++ (encText z ++ B)) A.length = .ok (.str z) (A.length + (encText z).length) := by
  have p := p9
  have h1 := h.1
  have hl : (codes z).length = z.length := codes_len z
  unfold rdText encText
  rw [List.append_assoc, getN_figs A _ (by omega)]
  dsimp only
  rw [if_neg (by omega)]
  have e0 : ((z.length : Nat) : Int).toNat = (codes z).length := by omega
  rw [e0, app3 A (figsN z.length), ← List.length_append, goText_read (text_code h), List.nil_append, strOf_codes, List.length_append, List.length_append, Nat.add_assoc]
theorem zag_zig (i : Int) : zag ((zig i : Nat) : Int) = i := by
  unfold zig zag
  split <;> split <;> omega
theorem rdVal_read {v : PyData} {A B : List Int} (h : v = .none ∨ ValS v) : rdVal (A ++ (encVal v ++ B)) A.length = .ok v (A.length + (encVal v).length) := by
  have p := p9
  rcases h with rfl | ⟨z, rfl, hz⟩ | ⟨i, rfl, hi⟩
  · unfold rdVal encVal
    show (match (A ++ (0 :: B))[A.length]? with | none => _ | some o => _) = _
    rw [at_len]
    rfl
  · unfold rdVal encVal
    rw [List.cons_append, at_len]
    dsimp only
    rw [if_neg (by decide), if_neg (by decide), if_pos rfl]
    have e1 : A ++ 2 :: (encText z ++ B) = (A ++ [2]) ++ (encText z ++ B) := by rw [List.append_assoc]; rfl
    have e2 : A.length + 1 = (A ++ [(2 : Int)]).length := by rw [List.length_append]; rfl
    rw [e1, e2, rdText_read hz, List.length_append, List.length_singleton, List.length_cons]
    congr 1
    omega
  · unfold rdVal encVal
    rw [List.cons_append, at_len]
    dsimp only
    rw [if_neg (by decide), if_neg (by decide), if_neg (by decide)]
    have e1 : A ++ 1 :: (figsN (zig i) ++ B) = (A ++ [1]) ++ (figsN (zig i) ++ B) := by rw [List.append_assoc]; rfl
    have e2 : A.length + 1 = (A ++ [(1 : Int)]).length := by rw [List.length_append]; rfl
    have hz : zig i < 128 ^ 9 := by unfold zig; obtain ⟨h1, h2⟩ := hi; split <;> omega
    rw [e1, e2, getN_figs _ _ hz]
    dsimp only
    rw [zag_zig, if_neg (by obtain ⟨h1, h2⟩ := hi; omega), List.length_append, List.length_singleton, List.length_cons]
    congr 1
    omega
theorem rdEnd_read {v : PyData} {A B : List Int} (h : EndS v) : rdEnd (A ++ (encEnd v ++ B)) A.length = .ok v (A.length + (encEnd v).length) := by
  rcases h with rfl | ⟨z, rfl, hz⟩
  · unfold rdEnd encEnd
    show (match (A ++ (0 :: B))[A.length]? with | none => _ | some o => _) = _
    rw [at_len]
    rfl
  · unfold rdEnd encEnd
    rw [List.cons_append, at_len]
    dsimp only
    rw [if_neg (by decide), if_neg (by decide)]
    have e1 : A ++ 1 :: (encKey z ++ B) = (A ++ [1]) ++ (encKey z ++ B) := by rw [List.append_assoc]; rfl
    have e2 : A.length + 1 = (A ++ [(1 : Int)]).length := by rw [List.length_append]; rfl
    unfold rdKey
    rw [e1, e2, keyAt_read hz]
    dsimp only
    rw [List.length_append, List.length_singleton, List.length_cons]
    congr 1
    omega
theorem rdRange_read {lo hi : PyData} {A B : List Int} (h1 : EndS lo) (h2 : EndS hi) : rdRange (A ++ (encRange lo hi ++ B)) A.length = .ok (.tuple [lo, hi]) (A.length + (encRange lo hi).length) := by
  unfold rdRange encRange
  rw [List.append_assoc, rdEnd_read h1]
  dsimp only
  rw [app3 A (encEnd lo), ← List.length_append, rdEnd_read h2]
  dsimp only
  rw [List.length_append, List.length_append, Nat.add_assoc]
theorem goPairs_read {er : Bool} : ∀ {ps qs : List (Str × PyData)} {A B : List Int}, Rise (qs ++ ps) → (∀ p ∈ ps, KeyS p.1 ∧ ((er = true ∧ p.2 = .none) ∨ ValS p.2)) →
    goPairs (A ++ ((ps.flatMap fun p => encKey p.1 ++ encVal p.2) ++ B)) er ps.length A.length qs = .ok (pairsD (qs ++ ps)) (A.length + (ps.flatMap fun p => encKey p.1 ++ encVal p.2).length)
  | [], qs, A, B, _, _ => by unfold goPairs; rw [List.append_nil]; rfl
  | (z, v) :: ps, qs, A, B, hr, h => by
    obtain ⟨hk, hv⟩ := h (z, v) (List.mem_cons_self ..)
    have hb : behind qs z = false := by
      unfold behind
      cases e : qs.getLast? with
      | none => rfl
      | some p =>
        unfold Rise at hr
        rw [List.map_append] at hr
        have := (List.pairwise_append.mp hr).2.2 p.1 (List.mem_map_of_mem (List.mem_of_getLast? e)) z (List.mem_cons_self ..)
        show (!sLt p.1 z) = false
        rw [this]; rfl
    have hv2 : v = .none ∨ ValS v := hv.imp (fun x => x.2) id
    have hn : (isNo v && !er) = false := by
      rcases hv with ⟨rfl, rfl⟩ | ⟨w, rfl, _⟩ | ⟨i, rfl, _⟩ <;> rfl
    have ih := goPairs_read (er := er) (ps := ps) (qs := qs ++ [(z, v)]) (A := (A ++ encKey z) ++ encVal v) (B := B) (by rw [List.append_assoc]; exact hr) fun p hp => h p (List.mem_cons_of_mem _ hp)
    rw [List.flatMap_cons, List.length_cons, List.append_assoc, List.append_assoc]
    unfold goPairs
    rw [keyAt_read hk]
    dsimp only
    rw [if_neg (by rw [hb]; decide), app3 A (encKey z), ← List.length_append, rdVal_read hv2]
    dsimp only
    rw [if_neg (by rw [hn]; decide), app3 _ (encVal v), ← List.length_append, ih, List.append_assoc qs]
    congr 1
    simp only [List.length_append]
    omega
theorem rdPairs_read {er : Bool} {ps : List (Str × PyData)} {A B : List Int} (hl : ps.length ≤ 4) (hr : Rise ps) (h : ∀ p ∈ ps, KeyS p.1 ∧ ((er = true ∧ p.2 = .none) ∨ ValS p.2)) : rdPairs er (A ++ (encPairs ps ++ B)) A.length = .ok (pairsD ps) (A.length + (encPairs ps).length) := by
  have p := p9
  unfold rdPairs encPairs
  rw [List.append_assoc, getN_figs A _ (by omega)]
  dsimp only
  have e0 : ((ps.length : Nat) : Int).toNat = ps.length := by omega
  rw [e0, app3 A (figsN ps.length), ← List.length_append, goPairs_read (qs := []) hr h, List.length_append, List.length_append, Nat.add_assoc]
  rfl
theorem figs_oct {n : Nat} (h : n < 128 ^ 9) : Oct (figsN n) := fun x hx => by
  have := figsF_oct 8 n h x hx
  exact this
theorem codes_oct {z s : Str} (hs : s.cps.toList.all (fun c => decide (c < 256)) = true) (h : ∀ c ∈ z.cps.toList, c ∈ s.cps.toList) : Oct (codes z) := fun o ho => by
  unfold codes at ho
  obtain ⟨c, hc, rfl⟩ := List.mem_map.mp ho
  have := of_decide_eq_true (List.all_eq_true.mp hs c (h c hc))
  omega
theorem key_oct {z : Str} (h : KeyS z) : Oct (encKey z) := oct_app (codes_oct (s := c_KEY_SIGNS) (by decide +kernel) h.2.2) (oct_one (by decide))
theorem val_oct {v : PyData} (h : v = .none ∨ ValS v) : Oct (encVal v) := by
  have p := p9
  rcases h with rfl | ⟨z, rfl, hz⟩ | ⟨i, rfl, hi⟩
  · exact oct_one (by decide)
  · exact oct_app (xs := [2]) (oct_one (by decide)) (oct_app (figs_oct (by have := hz.1; omega)) (codes_oct (s := lawT) (by decide +kernel) hz.2))
  · exact oct_app (xs := [1]) (oct_one (by decide)) (figs_oct (by unfold zig; obtain ⟨h1, h2⟩ := hi; split <;> omega))
theorem end_oct {v : PyData} (h : EndS v) : Oct (encEnd v) := by
  rcases h with rfl | ⟨z, rfl, hz⟩
  · exact oct_one (by decide)
  · exact oct_app (xs := [1]) (oct_one (by decide)) (key_oct hz)
theorem flat_oct {α : Type} {l : List α} {f : α → List Int} (h : ∀ x ∈ l, Oct (f x)) : Oct (l.flatMap f) := fun o ho => by
  obtain ⟨x, hx, h2⟩ := List.mem_flatMap.mp ho
  exact h x hx o h2
theorem endS_ok {v : PyData} (h : EndS v) : OkEnd v ∧ FlatD v := by
  rcases h with rfl | ⟨z, rfl, hz⟩
  · exact ⟨trivial, trivial⟩
  · exact ⟨hz.2.1, keyS_ok hz⟩
theorem textS_ok {z : Str} (h : TextS z) : PyData.strOk z = true := by
  unfold PyData.strOk
  rw [← Array.all_toList, List.all_eq_true]
  intro c hc
  exact List.all_eq_true.mp (show lawT.cps.toList.all (fun c => decide (c < 0x110000)) = true by decide +kernel) c (h.2 c hc)
theorem valS_ok {v : PyData} (h : v = .none ∨ ValS v) : OkVal v ∧ FlatD v := by
  rcases h with rfl | ⟨z, rfl, hz⟩ | ⟨i, rfl, hi⟩
  · exact ⟨trivial, trivial⟩
  · exact ⟨hz.1, textS_ok hz⟩
  · have p : (2 : Int) ^ 62 = 4611686018427387904 := by decide
    exact ⟨⟨by rw [p]; obtain ⟨h1, h2⟩ := hi; omega, by rw [p]; obtain ⟨h1, h2⟩ := hi; omega⟩, trivial⟩
/-- what is known of a thing drawn -/
structure Drawn (w : Str) (t : PyData) (e : List Int) : Prop where
  th : Thing w t e
  oc : Oct e
  ne : e ≠ []
  ln : e.length ≤ 250
  rd : ∀ A B : List Int, rdW w (A ++ (e ++ B)) A.length = .ok t (A.length + e.length)
theorem figs_ne (n : Nat) : figsN n ≠ [] := by
  unfold figsN figsF
  split <;> simp
theorem drawn_pairs {w : Str} {er : Bool} {ps : List (Str × PyData)} (hw : w = wE ∨ w = wW) (he : rdW w = rdPairs er) (hl : ps.length ≤ 4) (hr : Rise ps) (h : ∀ p ∈ ps, KeyS p.1 ∧ ((er = true ∧ p.2 = .none) ∨ ValS p.2)) : Drawn w (pairsD ps) (encPairs ps) := by
  have p := p9
  have hv : ∀ p ∈ ps, p.2 = .none ∨ ValS p.2 := fun p hp => (h p hp).2.imp (fun x => x.2) id
  have hok : ∀ p ∈ ps, (p.1.length ≤ 16 ∧ OkVal p.2) ∧ FlatP p := fun p hp => ⟨⟨(h p hp).1.2.1, (valS_ok (hv p hp)).1⟩, keyS_ok (h p hp).1, (valS_ok (hv p hp)).2⟩
  refine ⟨.inr (.inr ⟨hw, ps, rfl, by omega, hok, rfl⟩), oct_app (figs_oct (by omega)) (flat_oct fun p hp => oct_app (key_oct (h p hp).1) (val_oct (hv p hp))), ?_, ?_, fun A B => ?_⟩
  · unfold encPairs
    intro e
    exact figs_ne _ (List.append_eq_nil_iff.mp e).1
  · unfold encPairs
    have l1 := figsN_len ps.length
    have l2 := prs_len fun p hp => (hok p hp).1
    rw [List.length_append]
    omega
  · rw [he]
    exact rdPairs_read hl hr h
theorem good_drawn {w : Str} {t : PyData} (h : GoodT w t) : ∃ e, Drawn w t e := by
  have p := p9
  rcases h with ⟨rfl, ns, rfl, hl, hb⟩ | ⟨rfl, lo, hi, rfl, h1, h2⟩ | ⟨rfl, ps, rfl, hl, hr, h⟩ | ⟨rfl, ps, rfl, hl, hr, h⟩
  · have hb2 : ∀ n ∈ ns, 0 ≤ n ∧ n < 2 ^ 63 := fun n hn => by have := hb n hn; omega
    refine ⟨encNums ns, .inl ⟨rfl, ns, rfl, by omega, hb2, rfl⟩, oct_app (figs_oct (by omega)) (flat_oct fun n hn => figs_oct (by have := hb n hn; omega)), ?_, ?_, fun A B => ?_⟩
    · unfold encNums
      intro e
      exact figs_ne _ (List.append_eq_nil_iff.mp e).1
    · unfold encNums
      have l1 := figsN_len ns.length
      have l2 := flat_len ns
      rw [List.length_append]
      omega
    · exact rdNums_read (by omega) hb2
  · refine ⟨encRange lo hi, .inr (.inl ⟨rfl, lo, hi, rfl, endS_ok h1, endS_ok h2, rfl⟩), oct_app (end_oct h1) (end_oct h2), ?_, ?_, fun A B => ?_⟩
    · unfold encRange
      intro e
      have := (List.append_eq_nil_iff.mp e).1
      rcases h1 with rfl | ⟨z, rfl, _⟩ <;> exact absurd this (by simp [encEnd])
    · have l1 := encEnd_len (endS_ok h1).1
      have l2 := encEnd_len (endS_ok h2).1
      unfold encRange
      rw [List.length_append]
      omega
    · exact rdRange_read h1 h2
  · exact ⟨_, drawn_pairs (.inl rfl) (er := false) rfl hl hr fun p hp => ⟨(h p hp).1, .inr (h p hp).2⟩⟩
  · exact ⟨_, drawn_pairs (.inr rfl) (er := true) rfl hl hr fun p hp => ⟨(h p hp).1, (h p hp).2.imp (fun e => ⟨rfl, e⟩) id⟩⟩
/-- no thing's octets begin with another's -/
theorem drawn_pre {w : Str} {t u : PyData} {e f : List Int} (h : Drawn w t e) (g : Drawn w u f) (hp : f.take e.length = e) : t = u := by
  have h1 := h.rd [] (f.drop e.length)
  have h2 := g.rd [] []
  rw [List.append_nil] at h2
  have ef : e ++ f.drop e.length = f := by
    conv => rhs; rw [← List.take_append_drop e.length f, hp]
  rw [ef, h2] at h1
  exact (Rd.ok.inj h1).1.symm
end K04

namespace K04
open PySem PySem.Spec
open PyProof.Rows L2 DL DW
local macro_rules | `(tactic| walk_at "dw0") => `(tactic| simp only [DW.startS, DW.AV.sv, List.map_cons, List.map_nil, List.length_cons, List.length_nil, List.replicate_succ, List.replicate_zero, List.cons_append, List.nil_append, Nat.reduceAdd, Nat.reduceSub])
local macro_rules | `(tactic| walk_at "dw") => `(tactic| simp only [DW.wSeq, DW.wNext, DW.wIfS, DW.wRet, DW.wRetN, DW.wBreak, DW.wCont, DW.wSet, DW.wAsg, DW.wNew, DW.wNewL, DW.wNewC, DW.wExpr, DW.wApp, DW.wExt, DW.wExtA, DW.wPop, DW.wAug, DW.wRaise, DW.wVar, DW.wC, DW.wRaw, DW.wOp, DW.wUn, DW.waNil, DW.waCons, DW.wCB, DW.wTup, DW.wLst, DW.wTest, DW.wYes, DW.wAnd, DW.wOr, DW.wNot, DW.wTr, DW.gTr, DW.wAndV, DW.wOrV, DW.wNotV, DW.wIf, DW.rdq, DW.frz, DW.asg, DW.avf, DW.wuNil, DW.wuCons, DW.wCall, DW.wCallK, DW.wNotKD, DW.wIxKD, DW.wCallV, DW.wHear, DW.wgName, DW.wgTup, DW.wgCons, DW.wgNil,
  DW.wParN, DW.wnNil, DW.wnD, DW.wnNew, DW.asgN, DW.gAdd, DW.gSub, DW.gMul, DW.gMod, DW.gDiv, DW.gPow, DW.gLt, DW.gLe, DW.gGt, DW.gGe, DW.gEq, DW.gNe, DW.gEqS, DW.gNeS, DW.pick, List.filterMap_cons, List.filterMap_nil, DW.gInB, DW.gIs, DW.gIsNot, DW.gIx, DW.gNeg, DW.gLen, DW.gToT, DW.gToL, DW.gInt, DW.gAbs, DW.gRepr, DW.gMin2, DW.gMax2, DW.gOrd, DW.gStr, DW.gAddI, DW.gSubI, DW.gIsB, DW.gIsntB, DW.gRep, DW.gSorted, DW.wJoin, DW.gJoin, DW.wIndex, DW.gIndex, DW.wRg1, DW.wRg2, DW.LT.mk, DW.wiSeq, DW.wiRng1, DW.wiRng2, DW.wiRngB, DW.wiEnumX, DW.wiEnum, DW.wipeS, DL.truth, DL.isNo, DW.wIsi, DW.wChain, DW.wSl, DW.gSl, DW.gRev, DW.woNone, DW.woSome, DW.wFor_eq, DW.wLc_eq, DW.wNewLc_eq, DW.one_ord, DW.one_len, DL.oD_len,
  DW.eqv_int, DW.sh_intT, true_and, List.getElem?_cons_zero, List.getElem?_cons_succ, List.set_cons_zero, List.set_cons_succ, List.length_cons, List.length_nil, if_true, if_false, decide_eq_true_eq, Bool.false_eq_true, reduceIte, List.cons_append, List.nil_append, Nat.reduceAdd, Bool.not_true, Bool.not_false])
local macro_rules | `(tactic| walk_at "ds") => `(tactic| repeat ((with_reducible refine DW.Kt_i ?_); (walk_at "dw")))
local macro_rules | `(tactic| walk_at "go") => `(tactic| ((walk_at "dw0"); (walk_at "dw"); (walk_at "ds")))
local macro_rules | `(tactic| walk_at "dt") => `(tactic| ((try walk_at "dw"); (walk_at "ds")))
/-! ### reading a whole row -/
abbrev s_read_whole : Stmt := top 35
abbrev N_read_whole : List Str := ["word", "octets", "reader", "thing", "behind"]
theorem sc_read_whole : FnScope N_read_whole ["word", "octets"] (defScope s_read_whole) := ⟨rfl, rfl, rfl, by decide +kernel, rfl, by decide +kernel, by decide +kernel⟩
def tabW (ad : Str → Addr) : List (Str × Addr) := [(wN, ad wN), (wR, ad wR), (wE, ad wE), (wW, ad wW)]
def RdW (ad : Str → Addr) : RdT := fun f pre post exc => ∃ w, Word w ∧ f = ad w ∧ pre = preR ∧ post = postR (rdW w) ∧ exc = excR (rdW w)
def w_read_whole (ad : Str → Addr) : WS := (wSeq (wIfS (wOr (wNot (wTest (wIsi "str" (wVar 0)))) (wTest (wNotKD (tabW ad) (wVar 0)))) (wRaise "NoName" (wVar 0)) wNext)
 (wSeq (wSet 2 (wIxKD (tabW ad) (wVar 0)))
 (wSeq (wAsg (wCallV 2 (RdW ad) (wuCons (wVar 1) (wuCons (wC (.int 0)) wuNil))) (wgTup 2 (wgCons (wgName 3) (wgCons (wgName 4) wgNil))))
 (wSeq (wIfS (wTest (wOp gLt (wVar 4) (wUn gLen (wVar 1)))) (wRaise "InvalidOctets" (wVar 4)) wNext)
 (wRet (wVar 3))))))
def pre_read_whole (as : List AV) : Prop := ∃ (w : Str) (xs : List Int), as = [.d (.str w), .d (.tuple (oD xs))] ∧ Word w ∧ Oct xs ∧ xs.length < 2 ^ 20
def post_read_whole (as : List AV) (d : PyData) : Prop := ∃ (w : Str) (xs : List Int), as = [.d (.str w), .d (.tuple (oD xs))] ∧ rdW w xs 0 = .ok d xs.length
def exc_read_whole (as : List AV) (c : Str) (x : PyData) : Prop := ∃ (w : Str) (xs : List Int) (p : Nat), as = [.d (.str w), .d (.tuple (oD xs))] ∧ (rdW w xs 0 = .bad p ∨ ∃ v, rdW w xs 0 = .ok v p ∧ p < xs.length) ∧ c = "InvalidOctets" ∧ x = .int p
theorem len_read_whole : ∀ as, pre_read_whole as → as.length = 2 := by rintro as ⟨_, _, rfl, _⟩; rfl
def Go_read_whole (ad : Str → Addr) : Prop := ∀ as, pre_read_whole as → w_read_whole ad (startS 5 as) ⟨fun _ => post_read_whole as .none, fun d _ => post_read_whole as d, fun _ => False, fun _ => False, fun c x _ => exc_read_whole as c x⟩
section
variable {P : Program} {w : World} {K : PySem.W.Frag} {mg : Str → Option Value} {base : Heap} {f RD : Addr} {fd : FuncData} {ds : Array DictEntry} {n : Nat} {ad : Str → Addr}
theorem ok_read_whole (go : Go_read_whole ad) (F : FnP K "read_whole" s_read_whole f fd) (T : Fx mg) (gR : mg "READERS" = some (.ref RD)) (D : KDict K w RD ds n) (hd : ∀ z f, (z, f) ∈ tabW ad → PySem.W.nsIn K RD z = some (some (.ref f)))
    (AV : ∀ f sp, SpR K (erL K) anyM (RdW ad) f sp → ∃ (fd : FuncData) (ps : List Str), FnG P w K mg base (L2.CX P w) 8 f fd ps sp ∧ PySem.W.keepIn K (.ref f) = true ∧ Binds K fd ps [])
    (R_InvalidOctets : Er P w K mg base "InvalidOctets" ((erL K).cl "InvalidOctets") "at") (R_NoName : Er P w K mg base "NoName" ((erL K).cl "NoName") "name") : FnG P w K mg base (L2.CX P w) 9 f fd ["word", "octets"] (spU K (erL K) anyM pre_read_whole post_read_whole exc_read_whole) := by
  have nd := sc_read_whole.nd
  refine fn_w (ws := w_read_whole ad) F sc_read_whole len_read_whole (by decide) (fun cdv A out s H E hG hr => ?_) go
  exact ⟨_, (dss_cons (ds_if (dt_w (dw_or (dt_not (dt_val (de_isi (n := "str") rfl (by decide) T.b_isinstance (de_var (pv 0)) (pe_bltn (v := .ty "str") rfl T.b_str rfl rfl)))) (dw_or1 ⟨pt_cmpR (r := rNotKD K RD) (op_notIn_kd D) (pv 0) (pe_glob (v := .ref RD) rfl gR rfl) rfl, st_test (se_notKD hd se_var)⟩))) (dss_one (ds_raise R_NoName rfl rfl rfl (takes_of rfl rfl rfl rfl) (hr.mono (by decide)) (de_var (pv 0))))
   dss_nil)
   (dss_cons (ds_set (i := 2) nd rfl (Or.inl rfl) (de_ixKD rfl D gR hd (de_var (pv 0))))
   (dss_cons (ds_asg (de_callV (i := 2) AV rfl hG (hr.mono (by decide)) (passW (takes_of rfl rfl rfl rfl)) (fun _ _ => trivial) rfl (Or.inl rfl) (du_cons (de_var (pv 1)) (du_cons (de_int pe_int) du_nil))) (dg_tup rfl rfl (dgs_cons (dg_name (pg_name (i := 3) nd rfl (Or.inl rfl))) (dgs_cons (dg_name (pg_name (i := 4) nd rfl (Or.inl rfl))) dgs_nil))))
   (dss_cons (ds_if (dt_cmp op_ltW os_lt (nomark _) (de_var (pv 4)) (de_b1 (cl_lenK K rfl) us_len T.b_len (de_var (pv 1)))) (dss_one (ds_raise R_InvalidOctets rfl rfl rfl (takes_of rfl rfl rfl rfl) (hr.mono (by decide)) (de_var (pv 4))))
   dss_nil)
   (dss_one (ds_ret (de_var (pv 3))))))))⟩
end
theorem go_read_whole (ad : Str → Addr) : Go_read_whole ad := by
  rintro as ⟨w, xs, rfl, hw, ho, hl⟩
  have hm : (w, ad w) ∈ tabW ad := by
    rcases hw with rfl | rfl | rfl | rfl <;> simp [tabW]
  have hle : ∀ {v q}, rdW w xs 0 = .ok v q → q ≤ xs.length := fun {v q} h => by
    unfold rdW at h
    split at h
    · obtain ⟨_, _, _, _, _, _, h⟩ := rdNums_canon ho h; exact h
    · split at h
      · obtain ⟨_, _, _, _, _, _, _, h⟩ := rdRange_canon ho h; exact h
      · obtain ⟨_, _, _, _, _, _, h⟩ := rdPairs_canon ho h; exact h
  unfold w_read_whole
  walk_at "go"
  have e : isTy (.str w) "str" = true := rfl
  rw [e]
  walk_at "dt"
  refine ⟨w, ad w, rfl, hm, ?_⟩
  walk_at "dt"
  refine ⟨w, ad w, rfl, hm, ?_⟩
  walk_at "dt"
  refine ⟨ad w, preR, _, _, rfl, ⟨w, hw, rfl, rfl, rfl, rfl⟩, ⟨xs, 0, rfl, ho, hl, Nat.zero_le _⟩, ?_, ?_⟩
  · rintro d ⟨xs', a', v, q, e2, hg, rfl⟩
    obtain ⟨rfl, rfl⟩ := rd_inj (a := 0) e2
    have hq := hle hg
    unfold pairD
    walk_at "dt"
    split
    · rename_i c
      exact ⟨w, xs, q, rfl, .inr ⟨v, hg, by omega⟩, rfl, rfl⟩
    · rename_i c
      walk_at "dt"
      have : q = xs.length := by omega
      subst this
      exact ⟨w, xs, rfl, hg⟩
  · rintro c x ⟨xs', a', p, e2, hg, rfl, rfl⟩
    obtain ⟨rfl, rfl⟩ := rd_inj (a := 0) e2
    exact ⟨w, xs, p, rfl, .inl hg, rfl, rfl⟩
end K04

namespace K04
open PySem PySem.Spec
open PyProof.Rows L2 DL DW
local macro_rules | `(tactic| walk_at "dw0") => `(tactic| simp only [DW.startS, DW.AV.sv, List.map_cons, List.map_nil, List.length_cons, List.length_nil, List.replicate_succ, List.replicate_zero, List.cons_append, List.nil_append, Nat.reduceAdd, Nat.reduceSub])
local macro_rules | `(tactic| walk_at "dw") => `(tactic| simp only [DW.wSeq, DW.wNext, DW.wIfS, DW.wRet, DW.wRetN, DW.wBreak, DW.wCont, DW.wSet, DW.wAsg, DW.wNew, DW.wNewL, DW.wNewC, DW.wExpr, DW.wApp, DW.wExt, DW.wExtA, DW.wPop, DW.wAug, DW.wRaise, DW.wVar, DW.wC, DW.wRaw, DW.wOp, DW.wUn, DW.waNil, DW.waCons, DW.wCB, DW.wTup, DW.wLst, DW.wTest, DW.wYes, DW.wAnd, DW.wOr, DW.wNot, DW.wTr, DW.gTr, DW.wAndV, DW.wOrV, DW.wNotV, DW.wIf, DW.rdq, DW.frz, DW.asg, DW.avf, DW.wuNil, DW.wuCons, DW.wCall, DW.wCallK, DW.wNotKD, DW.wIxKD, DW.wCallV, DW.wHear, DW.wgName, DW.wgTup, DW.wgCons, DW.wgNil,
  DW.wParN, DW.wnNil, DW.wnD, DW.wnNew, DW.asgN, DW.gAdd, DW.gSub, DW.gMul, DW.gMod, DW.gDiv, DW.gPow, DW.gLt, DW.gLe, DW.gGt, DW.gGe, DW.gEq, DW.gNe, DW.gEqS, DW.gNeS, DW.pick, List.filterMap_cons, List.filterMap_nil, DW.gInB, DW.gIs, DW.gIsNot, DW.gIx, DW.gNeg, DW.gLen, DW.gToT, DW.gToL, DW.gInt, DW.gAbs, DW.gRepr, DW.gMin2, DW.gMax2, DW.gOrd, DW.gStr, DW.gAddI, DW.gSubI, DW.gIsB, DW.gIsntB, DW.gRep, DW.gSorted, DW.wJoin, DW.gJoin, DW.wIndex, DW.gIndex, DW.wRg1, DW.wRg2, DW.LT.mk, DW.wiSeq, DW.wiRng1, DW.wiRng2, DW.wiRngB, DW.wiEnumX, DW.wiEnum, DW.wipeS, DL.truth, DL.isNo, DW.wIsi, DW.wChain, DW.wSl, DW.gSl, DW.gRev, DW.woNone, DW.woSome, DW.wFor_eq, DW.wLc_eq, DW.wNewLc_eq, DW.one_ord, DW.one_len, DL.oD_len,
  DW.eqv_int, DW.sh_intT, true_and, List.getElem?_cons_zero, List.getElem?_cons_succ, List.set_cons_zero, List.set_cons_succ, List.length_cons, List.length_nil, if_true, if_false, decide_eq_true_eq, Bool.false_eq_true, reduceIte, List.cons_append, List.nil_append, Nat.reduceAdd, Bool.not_true, Bool.not_false])
local macro_rules | `(tactic| walk_at "ds") => `(tactic| repeat ((with_reducible refine DW.Kt_i ?_); (walk_at "dw")))
local macro_rules | `(tactic| walk_at "go") => `(tactic| ((walk_at "dw0"); (walk_at "dw"); (walk_at "ds")))
local macro_rules | `(tactic| walk_at "dt") => `(tactic| ((try walk_at "dw"); (walk_at "ds")))
/-! ### the def that hears -/
abbrev s__law_heard : Stmt := top 55
abbrev N__law_heard : List Str := ["_law_work", "wrong"]
theorem sc__law_heard : FnScope N__law_heard ["_law_work"] (defScope s__law_heard) := ⟨rfl, rfl, rfl, by decide +kernel, rfl, by decide +kernel, by decide +kernel⟩
abbrev rowsH : List (Str × Str) := [("InvalidOctets", "bytes")]
/-- what is known of the class beside StoreError -/
structure Kin (K : PySem.W.Frag) (SE : Addr) : Prop where
  ii : PySem.W.exmOne K (.ref ((erL K).cl "InvalidOctets")) (.ref ((erL K).cl "InvalidOctets")) = some true
  ci : L2.ExcC K ((erL K).cl "InvalidOctets")
  si : PySem.W.kitOne K (.ref ((erL K).cl "InvalidOctets")) (.ref SE) = some true
def tBytes (K : PySem.W.Frag) (SE C : Addr) (a : Addr) (cls : Value) (d : Option Addr) : TS :=
  tRet (tLst (tCons (tC (.str "bytes")) (tCons (tXf a cls d C "at" (tVar 1)) (tCons (tCB (rIsA K cls d a) (tCons (tVar 1) (tCons (tC (.ref SE)) tNil))) tNil))))
theorem heard_gives {X : Cx} {q : Str} {g SE : Addr} {cdg : Value} (RI : Er X.prog X.w X.K X.mg X.base "InvalidOctets" ((erL X.K).cl "InvalidOctets") "at") (hS : X.mg "StoreError" = some (.ref SE)) (bI : X.mg "isinstance" = none) (k : Kin X.K SE) :
    LamX.GivesTo X N__law_heard "_law_heard" (defScope s__law_heard) g cdg (defBody s__law_heard) "_law_work" q (DW.THear (rowsOf (erL X.K) rowsH)) := by
  intro f c' s H Q tl act hc h
  have nd := sc__law_heard.nd
  refine ⟨_, pss_one (ps_try_named (X := (cxOf C8.CX0 X.prog X.w X.K X.mg X.base N__law_heard "_law_heard" (defScope s__law_heard) g cdg X.A X.stack s H C8.E0).nox) (Wo := fun _ _ _ _ => False)
    (l := [(.ref ((erL X.K).cl "InvalidOctets"), 1, tBytes X.K SE ((erL X.K).cl "InvalidOctets"))])
    (tb := fun W D σ H => ∃ Ech : XK, (∀ cls d σ' H', σ'.length = 2 → Ech cls d H' → W cls d σ' H') ∧ tRet (tLst (tCons (tC (.str "told")) (tCons (fun σZ HZ Q => σZ[0]? = some (some (.ref f)) ∧ HZ c' = some (LamX.CodeO c' q) ∧ tl Ech HZ Q) tNil))) D σ H)
    rfl rfl nd takes0 (fun W pn xe tk _ => ?_) (HdsN.cons ⟨rfl, by decide, .inl RI.at_⟩ rfl rfl (fun a oe cls d pn hz hf => ?_) .nil)), ?_⟩
  · refine ⟨fun pins s' σ H' D I h' => ?_⟩
    obtain ⟨Ech, hW, h1⟩ := h'
    have tk2 : Takes ((cxOf C8.CX0 X.prog X.w X.K X.mg X.base N__law_heard "_law_heard" (defScope s__law_heard) g cdg X.A X.stack s H C8.E0).tr pn xe) (fun cls d σ H => σ.length = 2 → W cls d σ H) :=
      fun u s' ⟨a, B, sI, pins, σ, H, cls, d, e, I, nb, up, sky, na, os, ag, w⟩ => tk u s' ⟨a, B, sI, pins, σ, H, cls, d, e, I, nb, up, sky, na, os, ag, w I.len⟩
    have hp := fun p1 p2 => act (fun cls d σ H => σ.length = 2 → W cls d σ H) pn xe Ech p1 p2 tk2 (fun cls d σ' H' e l => hW cls d σ' H' l e)
    exact (pss_one (ps_ret (pe_lst (pa_cons pe_str (pa_cons (hp _ _) pa_nil))))).run pins s' σ H' D I h1
  · exact pss_one (ps_ret (pe_lst (pa_cons pe_str (pa_cons (pe_xf RI.xf RI.no hz hf (pv 1)) (pa_cons (xB (rIsA _ _ _ _) (call_isA hz hf) bI (pa_cons (pv 1) (pa_cons (pe_glob (v := .ref SE) rfl hS rfl) pa_nil))) pa_nil)))))
  · obtain ⟨Ech, hE, ht⟩ := h
    refine ⟨Ech, fun cls d σ' H' l2 e => ?_, rfl, hc, ht⟩
    have hl : ∀ a : Addr, (σ'.set 1 (some (.ref a)))[1]? = some (some (.ref a)) := fun a => by
      rw [List.getElem?_set_self (by omega)]
    obtain ⟨C, z, fl, hm, rfl, dx, v, rfl, hx, q⟩ := hE cls d H' e
    have n3 : 3 ≤ sizeLine := by decide
    simp only [rowsOf, rowsH, List.map_cons, List.map_nil, List.mem_cons, List.not_mem_nil, or_false, Prod.mk.injEq] at hm
    obtain ⟨rfl, rfl, rfl⟩ := hm
    refine ⟨true, k.ii, fun _ a na => ?_, nofun⟩
    exact ⟨.ref a, hl a, rfl, rfl, dx, _, v, rfl, hx, (by have e0 : (erL X.K).fl "InvalidOctets" = "at" := rfl; rw [e0]; simp [List.lookup]), .ref a, hl a, _, dx, _, .ref SE, .ref SE, true, rfl, rfl, hx, k.ci, rfl, fun u r => r, k.si, n3, q⟩
/-- a def with lambdas: its code object is known -/
theorem fn_wc {P : Program} {w : World} {K : PySem.W.Frag} {mg : Str → Option Value} {base : Heap} {CX : CXT} {k : Nat} {pd : He.Defn} {fd : FuncData} {ps : List Str} {x qual : Str} {params : Arguments} {body : List Stmt} {scope : Scope} {N : List Str} {er : Ers} {O : Md → Prop} {pre : List AV → Prop} {post : List AV → PyData → Prop} {exc : List AV → Str → PyData → Prop} {ws : WS}
    (F : FunD K x qual params body scope [] [] (He.fAd K pd) fd) (S : FnScope N ps scope) (hl : ∀ as, pre as → as.length = ps.length) (hN : ps.length ≤ N.length)
    (der : ∀ (A : Around) (out : List Env) (s : Shared) (H : Hp) (E : XK), A.guards = some [] → Room k (A.deeper (envOfC qual scope s.heap.objs.size (He.fAd K pd) (.ref (He.codeOf K pd)))) → ∃ t, PSs (cxOf CX P w K mg base N qual scope (He.fAd K pd) (.ref (He.codeOf K pd)) A out s H E) body t ∧ SS K er (fun c d _ H => E c d H) O t ws)
    (go : ∀ as, pre as → ws (startS N.length as) { nx := fun _ => post as .none, rt := fun d _ => post as d, bk := fun _ => False, ct := fun _ => False, er := fun c x _ => exc as c x }) : FnG P w K mg base CX (k + 1) (He.fAd K pd) fd ps (spU K er O pre post exc) := by
  refine fn_gc F S (fun vs H Q E h => ?_) fun A out s H vs Q E hG hr h => ?_
  · obtain ⟨M, J, as, _, _, a, hp, _⟩ := h
    rw [avs_len a]; exact hl as hp
  · obtain ⟨M, J, as, mo, wf, a, hp, q, qe⟩ := h
    obtain ⟨t, ht, hs⟩ := der A out s H E hG hr
    refine ⟨t, ht, ?_⟩
    have la := hl as hp
    have f0 := fr_start (N := N) wf a (by omega) rfl
    exact hs M mo J H [] _ _ J H f0 _ _ (go as hp) ⟨fun s' σ' J' H' f' _ z => q _ _ _ _ f'.tr z .non, fun v d s' σ' J' H' f' _ z a' => q v d _ _ f'.tr z a', fun _ _ _ _ _ _ z => z.elim, fun _ _ _ _ _ _ z => z.elim⟩
      fun c x s' σ' dx v J' H' f' z hx a' => qe c x dx v J' H' f'.tr z hx a'
end K04

namespace K04
open PySem PySem.Spec
open PyProof.Rows L2 DL DW
local macro_rules | `(tactic| walk_at "dw0") => `(tactic| simp only [DW.startS, DW.AV.sv, List.map_cons, List.map_nil, List.length_cons, List.length_nil, List.replicate_succ, List.replicate_zero, List.cons_append, List.nil_append, Nat.reduceAdd, Nat.reduceSub])
local macro_rules | `(tactic| walk_at "dw") => `(tactic| simp only [DW.wSeq, DW.wNext, DW.wIfS, DW.wRet, DW.wRetN, DW.wBreak, DW.wCont, DW.wSet, DW.wAsg, DW.wNew, DW.wNewL, DW.wNewC, DW.wExpr, DW.wApp, DW.wExt, DW.wExtA, DW.wPop, DW.wAug, DW.wRaise, DW.wVar, DW.wC, DW.wRaw, DW.wOp, DW.wUn, DW.waNil, DW.waCons, DW.wCB, DW.wTup, DW.wLst, DW.wTest, DW.wYes, DW.wAnd, DW.wOr, DW.wNot, DW.wTr, DW.gTr, DW.wAndV, DW.wOrV, DW.wNotV, DW.wIf, DW.rdq, DW.frz, DW.asg, DW.avf, DW.wuNil, DW.wuCons, DW.wCall, DW.wCallK, DW.wNotKD, DW.wIxKD, DW.wCallV, DW.wHear, DW.wgName, DW.wgTup, DW.wgCons, DW.wgNil,
  DW.wParN, DW.wnNil, DW.wnD, DW.wnNew, DW.asgN, DW.gAdd, DW.gSub, DW.gMul, DW.gMod, DW.gDiv, DW.gPow, DW.gLt, DW.gLe, DW.gGt, DW.gGe, DW.gEq, DW.gNe, DW.gEqS, DW.gNeS, DW.pick, List.filterMap_cons, List.filterMap_nil, DW.gInB, DW.gIs, DW.gIsNot, DW.gIx, DW.gNeg, DW.gLen, DW.gToT, DW.gToL, DW.gInt, DW.gAbs, DW.gRepr, DW.gMin2, DW.gMax2, DW.gOrd, DW.gStr, DW.gAddI, DW.gSubI, DW.gIsB, DW.gIsntB, DW.gRep, DW.gSorted, DW.wJoin, DW.gJoin, DW.wIndex, DW.gIndex, DW.wRg1, DW.wRg2, DW.LT.mk, DW.wiSeq, DW.wiRng1, DW.wiRng2, DW.wiRngB, DW.wiEnumX, DW.wiEnum, DW.wipeS, DL.truth, DL.isNo, DW.wIsi, DW.wChain, DW.wSl, DW.gSl, DW.gRev, DW.woNone, DW.woSome, DW.wFor_eq, DW.wLc_eq, DW.wNewLc_eq, DW.one_ord, DW.one_len, DL.oD_len,
  DW.eqv_int, DW.sh_intT, true_and, List.getElem?_cons_zero, List.getElem?_cons_succ, List.set_cons_zero, List.set_cons_succ, List.length_cons, List.length_nil, if_true, if_false, decide_eq_true_eq, Bool.false_eq_true, reduceIte, List.cons_append, List.nil_append, Nat.reduceAdd, Bool.not_true, Bool.not_false])
local macro_rules | `(tactic| walk_at "ds") => `(tactic| repeat ((with_reducible refine DW.Kt_i ?_); (walk_at "dw")))
local macro_rules | `(tactic| walk_at "go") => `(tactic| ((walk_at "dw0"); (walk_at "dw"); (walk_at "ds")))
local macro_rules | `(tactic| walk_at "dt") => `(tactic| ((try walk_at "dw"); (walk_at "ds")))
/-! ### any row of octets -/
abbrev qLam (x : Str) : Str := x ++ ".<locals>." ++ "<lambda>"
def pre__law_any_right (as : List AV) : Prop := ∃ (w : Str) (xs : List Int), as = [.drw, .d (.str w), .d (.tuple (oD xs))] ∧ Word w ∧ Oct xs ∧ xs.length < 2 ^ 10
def post__law_any_right (_ : List AV) (d : PyData) : Prop := d = .bool true
abbrev exc__law_any_right := noE
theorem len__law_any_right : ∀ as, pre__law_any_right as → as.length = 3 := by rintro as ⟨_, _, rfl, _⟩; rfl
abbrev s__law_any_right : Stmt := top 57
abbrev N__law_any_right : List Str := ["_law_heap_here", "_law_word", "_law_octets", "_law_at", "_law_told", "_law_place", "_law_heard_here", "_law_due"]
theorem sc__law_any_right : FnScope N__law_any_right ["_law_heap_here", "_law_word", "_law_octets"] (defScope s__law_any_right) := ⟨rfl, rfl, rfl, by decide +kernel, rfl, by decide +kernel, by decide +kernel⟩
def w__law_any_right : WS := (wSeq (wSet 3 (wCall pre__law_pick post__law_pick exc__law_pick (wuCons (wVar 0) (wuCons (wLst (waCons (wC (.int 0)) (waCons (wC (.int 0)) (waCons (wCall pre__law_draw post__law_draw exc__law_draw (wuCons (wVar 0) (wuCons (wOp gAdd (wUn gLen (wVar 2)) (wC (.int 1))) wuNil))) waNil)))) wuNil))))
 (wSeq (wAsg (wCall pre__law_read post__law_read exc__law_read (wuCons (wVar 1) (wuCons (wVar 2) (wuCons (wVar 3) wuNil)))) (wgTup 2 (wgCons (wgName 4) (wgCons (wgName 5) wgNil))))
 (wSeq (wSet 6 (wHear rowsH pre__law_got post__law_got exc__law_got (wuCons (wVar 1) (wuCons (wVar 2) (wuCons (wVar 3) wuNil)))))
 (wSeq (wIfS (wTest (wOp gIs (wVar 4) (wC .none))) (wIfS (wTest (wOp gNe (wVar 6) (wLst (waCons (wC (.str "bytes")) (waCons (wVar 5) (waCons (wC (.bool true)) waNil)))))) (wRet (wC (.bool false)))
 wNext)
 (wIfS (wOr (wTest (wOp gNeS (wUn gRepr (wVar 6)) (wUn gRepr (wLst (waCons (wC (.str "told")) (waCons (wTup (waCons (wVar 4) (waCons (wVar 5) waNil))) waNil)))))) (wTest (wOp gNe (wCall pre__law_put post__law_put exc__law_put (wuCons (wVar 1) (wuCons (wVar 4) wuNil))) (wSl (wVar 2) (woSome (wVar 3)) (woSome (wVar 5)))))) (wRet (wC (.bool false)))
 wNext))
 (wSeq (wAsg (wCall pre__law_read post__law_read exc__law_read (wuCons (wVar 1) (wuCons (wVar 2) (wuCons (wC (.int 0)) wuNil)))) (wgTup 2 (wgCons (wgName 4) (wgCons (wgName 5) wgNil))))
 (wSeq (wSet 7 (wIf (wAnd (wTest (wOp gIsNot (wVar 4) (wC .none))) (wTest (wOp gEq (wVar 5) (wUn gLen (wVar 2))))) (wLst (waCons (wC (.str "told")) (waCons (wVar 4) waNil))) (wLst (waCons (wC (.str "bytes")) (waCons (wVar 5) (waCons (wC (.bool true)) waNil))))))
 (wRet (wOp gEqS (wUn gRepr (wHear rowsH pre_read_whole post_read_whole exc_read_whole (wuCons (wVar 1) (wuCons (wVar 2) wuNil)))) (wUn gRepr (wVar 7))))))))))
def Go__law_any_right : Prop := ∀ as, pre__law_any_right as → w__law_any_right (startS 8 as) ⟨fun _ => post__law_any_right as .none, fun d _ => post__law_any_right as d, fun _ => False, fun _ => False, fun c x _ => exc__law_any_right as c x⟩
section
variable {P : Program} {w : World} {K : PySem.W.Frag} {mg : Str → Option Value} {base : Heap} {gh SE : Addr} {fd fdh : FuncData} {TT : List (Addr × Str)}
theorem ok__law_any_right (go : Go__law_any_right) (F : FnP K "_law_any_right" s__law_any_right (He.fAd K ("_law_any_right", none)) fd) (T : Fx mg) (C__law_pick : Ca5 P w K mg base (L2.CX P w) 2 "_law_pick" ["_law_heap_here", "_law_some"] (spU K (erL K) anyM pre__law_pick post__law_pick exc__law_pick)) (C__law_draw : Ca5 P w K mg base (L2.CX P w) 1 "_law_draw" ["_law_heap_here", "_law_many"] (spU K (erL K) anyM pre__law_draw post__law_draw exc__law_draw)) (C__law_read : Ca5 P w K mg base (L2.CX P w) 5 "_law_read" ["_law_word", "_law_octets", "_law_at"] (spU K (erL K) anyM pre__law_read post__law_read exc__law_read)) (C__law_got : Ca5 P w K mg base (L2.CX P w) 8 "_law_got" ["_law_word", "_law_octets", "_law_at"] (spU K (erL K) anyM pre__law_got post__law_got exc__law_got)) (C__law_put : Ca5 P w K mg base (L2.CX P w) 6 "_law_put" ["_law_word", "_law_thing_here"] (spU K (erL K) anyM pre__law_put post__law_put exc__law_put)) (C_read_whole : Ca5 P w K mg base (L2.CX P w) 9 "read_whole" ["word", "octets"] (spU K (erL K) anyM pre_read_whole post_read_whole exc_read_whole)) (Fh : FnP K "_law_heard" s__law_heard gh fdh) (mh : mg "_law_heard" = some (.ref gh)) (bh : Binds K fdh ["_law_work"] []) (RI : Er P w K mg base "InvalidOctets" ((erL K).cl "InvalidOctets") "at") (mS : mg "StoreError" = some (.ref SE)) (kin : Kin K SE)
    (TB : LamX.TabB base mg (He.cT K ("_law_any_right", none)).1 (He.cT K ("_law_any_right", none)).2) (mT : ((He.cT K ("_law_any_right", none)).2, qLam "_law_any_right") ∈ TT) (uT : ∀ p ∈ TT, p.1 = (He.cT K ("_law_any_right", none)).2 → p.2 = qLam "_law_any_right") : FnG P w K mg base (L2.CX P w) 13 (He.fAd K ("_law_any_right", none)) fd ["_law_heap_here", "_law_word", "_law_octets"] (spU K (erL K) (fun M => HasTb M TT) pre__law_any_right post__law_any_right exc__law_any_right) := by
  have nd := sc__law_any_right.nd
  refine fn_wc (ws := w__law_any_right) F sc__law_any_right len__law_any_right (by decide) (fun A out s H E hG hr => ?_) go
  have Hh : Hears (cxOf (L2.CX P w) P w K mg base N__law_any_right "_law_any_right" (defScope s__law_any_right) (He.fAd K ("_law_any_right", none)) (.ref (He.codeOf K ("_law_any_right", none))) A out s H E) TT 9 "_law_heard" "_law_work" (DW.THear (rowsOf (erL K) rowsH)) :=
    hears_of (X := cxOf (L2.CX P w) P w K mg base N__law_any_right "_law_any_right" (defScope s__law_any_right) (He.fAd K ("_law_any_right", none)) (.ref (He.codeOf K ("_law_any_right", none))) A out s H E) Fh mh bh sc__law_heard rfl (Or.inl rfl) (fun cdg => heard_gives (X := cxOf (L2.CX P w) P w K mg base N__law_any_right "_law_any_right" (defScope s__law_any_right) (He.fAd K ("_law_any_right", none)) (.ref (He.codeOf K ("_law_any_right", none))) A out s H E) RI mS T.b_isinstance kin) TB rfl mT uT
  exact ⟨_, (dss_cons (ds_set (i := 3) nd rfl (Or.inr rfl) (de_call C__law_pick hG (hr.mono (by decide)) (passW (takes_of rfl rfl rfl rfl)) (fun _ _ => trivial) (du_cons (de_var (pv 0)) (du_cons (de_lst (da_cons' (de_int pe_int) (da_cons' (de_int pe_int) (da_cons' (de_call C__law_draw hG (hr.mono (by decide)) (passW (takes_of rfl rfl rfl rfl)) (fun _ _ => trivial) (du_cons (de_var (pv 0)) (du_cons (de_op (op_addW rfl) os_add (de_b1 (cl_lenK K rfl) us_len T.b_len (de_var (pv 2))) (de_int pe_int)) du_nil))) da_nil')))) du_nil))))
 (dss_cons (ds_asg (de_call C__law_read hG (hr.mono (by decide)) (passW (takes_of rfl rfl rfl rfl)) (fun _ _ => trivial) (du_cons (de_var (pv 1)) (du_cons (de_var (pv 2)) (du_cons (de_var (pv 3)) du_nil)))) (dg_tup rfl rfl (dgs_cons (dg_name (pg_name (i := 4) nd rfl (Or.inl rfl))) (dgs_cons (dg_name (pg_name (i := 5) nd rfl (Or.inl rfl))) dgs_nil))))
 (dss_cons (ds_set (i := 6) nd rfl (Or.inl rfl) (de_hear Hh hG (hr.mono (by decide)) (fun _ h => h) C__law_got (by decide) (fun _ _ => trivial) (fun _ _ _ _ _ _ _ _ _ => (du_cons (de_var (pv 1)) (du_cons (de_var (pv 2)) (du_cons (de_var (pv 3)) du_nil)))) (su_cons (se_var (i := 1)) (su_cons (se_var (i := 2)) (su_cons (se_var (i := 3)) su_nil))) (L := (by show LamX.lamSB (defScope s__law_any_right) _ = true; decide +kernel))))
 (dss_cons (ds_if (dt_cmp op_isNo os_is (nomark _) (de_var (pv 4)) (de_non pe_non)) (dss_one (ds_if (dt_cmp (op_neW rfl (hu64 hr)) os_ne (nomark _) (de_var (pv 6)) (de_lst (da_cons' (de_str pe_str) (da_cons' (de_var (pv 5)) (da_cons' (de_bl pe_bl) da_nil'))))) (dss_one (ds_ret (de_bl pe_bl)))
 dss_nil))
 (dss_one (ds_if (dt_w (dw_or (dt_cmp op_ne os_neS (nomark _) (de_b1 (cl_reprK K rfl hG (hu64 hr)) us_repr T.b_repr (de_var (pv 6))) (de_b1 (cl_reprK K rfl hG (hu64 hr)) us_repr T.b_repr (de_lst (da_cons' (de_str pe_str) (da_cons' (de_tup (da_cons' (de_var (pv 4)) (da_cons' (de_var (pv 5)) da_nil'))) da_nil'))))) (dw_or1 (dt_cmp (op_neW rfl (hu64 hr)) os_ne (nomark _) (de_call C__law_put hG (hr.mono (by decide)) (passW (takes_of rfl rfl rfl rfl)) (fun _ _ => trivial) (du_cons (de_var (pv 1)) (du_cons (de_var (pv 4)) du_nil))) (de_sl rfl (de_var (pv 2)) (do_some (de_var (pv 3))) (do_some (de_var (pv 5)))))))) (dss_one (ds_ret (de_bl pe_bl)))
 dss_nil)))
 (dss_cons (ds_asg (de_call C__law_read hG (hr.mono (by decide)) (passW (takes_of rfl rfl rfl rfl)) (fun _ _ => trivial) (du_cons (de_var (pv 1)) (du_cons (de_var (pv 2)) (du_cons (de_int pe_int) du_nil)))) (dg_tup rfl rfl (dgs_cons (dg_name (pg_name (i := 4) nd rfl (Or.inl rfl))) (dgs_cons (dg_name (pg_name (i := 5) nd rfl (Or.inl rfl))) dgs_nil))))
 (dss_cons (ds_set (i := 7) nd rfl (Or.inl rfl) (de_ifx (dt_w (dw_and (dt_cmp op_notNo os_isNot (nomark _) (de_var (pv 4)) (de_non pe_non)) (dw_and1 (dt_cmp (op_eqW rfl (hu64 hr)) os_eq (nomark _) (de_var (pv 5)) (de_b1 (cl_lenK K rfl) us_len T.b_len (de_var (pv 2))))))) (de_lst (da_cons' (de_str pe_str) (da_cons' (de_var (pv 4)) da_nil'))) (de_lst (da_cons' (de_str pe_str) (da_cons' (de_var (pv 5)) (da_cons' (de_bl pe_bl) da_nil'))))))
 (dss_one (ds_ret (de_cmp op_eq os_eqS (nomark _) (de_b1 (cl_reprK K rfl hG (hu64 hr)) us_repr T.b_repr (de_hear Hh hG (hr.mono (by decide)) (fun _ h => h) C_read_whole (by decide) (fun _ _ => trivial) (fun _ _ _ _ _ _ _ _ _ => (du_cons (de_var (pv 1)) (du_cons (de_var (pv 2)) du_nil))) (su_cons (se_var (i := 1)) (su_cons (se_var (i := 2)) su_nil)) (L := (by show LamX.lamSB (defScope s__law_any_right) _ = true; decide +kernel)))) (de_b1 (cl_reprK K rfl hG (hu64 hr)) us_repr T.b_repr (de_var (pv 7))))))))))))⟩

end
theorem rd_inj3 {w w' : Str} {xs ys : List Int} {a b : Nat} (h : [AV.d (.str w), AV.d (.tuple (oD xs)), AV.d (.int (a : Nat))] = AV.d (.str w') :: rdArgs ys b) : w = w' ∧ xs = ys ∧ a = b := by
  obtain ⟨e1, e2⟩ := List.cons.inj h
  have := rd_inj (xs := xs) (a := a) e2
  exact ⟨PyData.str.inj (AV.d.inj e1), this.1, this.2⟩
theorem rd_inj2 {w w' : Str} {xs ys : List Int} (h : [AV.d (.str w), AV.d (.tuple (oD xs))] = [AV.d (.str w'), AV.d (.tuple (oD ys))]) : w = w' ∧ xs = ys := by
  obtain ⟨e1, e2⟩ := List.cons.inj h
  exact ⟨PyData.str.inj (AV.d.inj e1), oD_inj (PyData.tuple.inj (AV.d.inj (List.cons.inj e2).1))⟩
theorem goNums_bad {xs : List Int} (ho : Oct xs) : ∀ {k p q : Nat} {acc : List Int}, p ≤ xs.length → goNums xs k p acc = .bad q → q ≤ xs.length
  | 0, p, q, acc, hp, h => by cases h
  | k + 1, p, q, acc, hp, h => by
    unfold goNums at h
    cases e : getN xs p with
    | none => rw [e] at h; cases h; exact hp
    | some r =>
      obtain ⟨n, r⟩ := r
      rw [e] at h
      obtain ⟨m, rfl, h1, h2, h3, hm⟩ := getN_some ho e
      exact goNums_bad ho h2 h
theorem goText_bad {xs : List Int} : ∀ {k p q : Nat} {w : List Int}, p ≤ xs.length → goText xs k p w = .bad q → q ≤ xs.length
  | 0, p, q, w, hp, h => by cases h
  | k + 1, p, q, w, hp, h => by
    unfold goText at h
    cases e : xs[p]? with
    | none => rw [e] at h; cases h; exact hp
    | some o =>
      rw [e] at h
      obtain ⟨hp2, _⟩ := List.getElem?_eq_some_iff.mp e
      have h : (if isTextC o = true then goText xs k (p + 1) (w ++ [o]) else .bad p) = .bad q := h
      split at h
      · exact goText_bad hp2 h
      · cases h; exact hp
theorem rdText_bad {xs : List Int} (ho : Oct xs) {a q : Nat} (ha : a ≤ xs.length) (h : rdText xs a = .bad q) : q ≤ xs.length := by
  unfold rdText at h
  cases e : getN xs a with
  | none => rw [e] at h; cases h; exact ha
  | some r =>
    obtain ⟨n, r⟩ := r
    rw [e] at h
    obtain ⟨m, rfl, h1, h2, h3, hm⟩ := getN_some ho e
    dsimp only at h
    split at h
    · cases h; exact ha
    · exact goText_bad h2 h
theorem rdVal_bad {xs : List Int} (ho : Oct xs) {a q : Nat} (ha : a ≤ xs.length) (h : rdVal xs a = .bad q) : q ≤ xs.length := by
  unfold rdVal at h
  cases e : xs[a]? with
  | none => rw [e] at h; cases h; exact ha
  | some o =>
    rw [e] at h
    obtain ⟨hp, _⟩ := List.getElem?_eq_some_iff.mp e
    dsimp only at h
    split at h
    · cases h; exact ha
    · split at h
      · cases h
      · split at h
        · exact rdText_bad ho hp h
        · cases e2 : getN xs (a + 1) with
          | none => rw [e2] at h; cases h; exact hp
          | some r =>
            rw [e2] at h
            dsimp only at h
            split at h
            · cases h; exact hp
            · cases h
theorem goPairs_bad {xs : List Int} (ho : Oct xs) {er : Bool} : ∀ {k p q : Nat} {ps : List (Str × PyData)}, p ≤ xs.length → goPairs xs er k p ps = .bad q → q ≤ xs.length
  | 0, p, q, ps, hp, h => by cases h
  | k + 1, p, q, ps, hp, h => by
    unfold goPairs at h
    cases e : keyAt xs p with
    | none => rw [e] at h; cases h; exact hp
    | some r =>
      obtain ⟨z, r⟩ := r
      rw [e] at h
      have hk := keyAt_le e
      dsimp only at h
      split at h
      · cases h; exact hp
      · cases e2 : rdVal xs r with
        | bad r2 => rw [e2] at h; cases h; exact rdVal_bad ho hk.2 e2
        | ok x r2 =>
          rw [e2] at h
          have hv := rdVal_le ho e2
          dsimp only at h
          split at h
          · cases h; exact hk.2
          · exact goPairs_bad ho hv.2 h
theorem rdEnd_bad {xs : List Int} {a q : Nat} (ha : a ≤ xs.length) (h : rdEnd xs a = .bad q) : q ≤ xs.length := by
  unfold rdEnd at h
  cases e : xs[a]? with
  | none => rw [e] at h; cases h; exact ha
  | some o =>
    rw [e] at h
    obtain ⟨hp, _⟩ := List.getElem?_eq_some_iff.mp e
    dsimp only at h
    split at h
    · cases h; exact ha
    · split at h
      · cases h
      · rw [rdKey_bad h]; exact hp
theorem rdW_bad {xs : List Int} (ho : Oct xs) {w : Str} {a q : Nat} (h : rdW w xs a = .bad q) (ha : a ≤ xs.length) : q ≤ xs.length := by
  unfold rdW at h
  split at h
  · unfold rdNums at h
    cases e : getN xs a with
    | none => rw [e] at h; cases h; exact ha
    | some r =>
      obtain ⟨n, r⟩ := r
      rw [e] at h
      obtain ⟨m, rfl, h1, h2, h3, hm⟩ := getN_some ho e
      exact goNums_bad ho h2 h
  · split at h
    · unfold rdRange at h
      cases e : rdEnd xs a with
      | bad p => rw [e] at h; cases h; exact rdEnd_bad ha e
      | ok lo r =>
        rw [e] at h
        have := rdEnd_le e
        dsimp only at h
        cases e2 : rdEnd xs r with
        | bad p => rw [e2] at h; cases h; exact rdEnd_bad this.2 e2
        | ok hi r2 => rw [e2] at h; cases h
    · unfold rdPairs at h
      cases e : getN xs a with
      | none => rw [e] at h; cases h; exact ha
      | some r =>
        obtain ⟨n, r⟩ := r
        rw [e] at h
        obtain ⟨m, rfl, h1, h2, h3, hm⟩ := getN_some ho e
        exact goPairs_bad ho h2 h
theorem fz_word {z : Str} (h : PyData.strOk z = true) (hl : z.length ≤ 64) (k : Nat) : Fz (.str z) 64 k := fz_str h hl k
theorem fz_true (k : Nat) : Fz (.bool true) 64 k := ⟨rfl, rfl, Nat.zero_le _, Nat.zero_le _⟩
theorem fit_bytes {p : Nat} (h : p < 2 ^ 20) : Fit (.list [.str "bytes", .int (p : Nat), .bool true]) := by
  have p20 : (2 : Nat) ^ 20 = 1048576 := by decide
  have := fz_lst (fzl_cons (fz_str (z := "bytes") (by decide +kernel) (by decide) 2) (fzl_cons (fz_int (i := (p : Nat)) (by omega) 2) (fzl_cons (fz_true 2) (fzl_nil 2))))
  exact this.fit (by decide) (by decide)
theorem fit_told {w : Str} {t : PyData} {e : List Int} (h : Thing w t e) : Fit (.list [.str "told", t]) := by
  have := fz_lst (fzl_cons (fz_str (z := "told") (by decide +kernel) (by decide) 3) (fzl_cons (thing_fz h) (fzl_nil 3)))
  exact this.fit (by decide) (by decide)
theorem fit_told2 {w : Str} {t : PyData} {e : List Int} {q : Nat} (h : Thing w t e) (hq : q < 2 ^ 20) : Fit (.list [.str "told", .tuple [t, .int (q : Nat)]]) := by
  have p20 : (2 : Nat) ^ 20 = 1048576 := by decide
  have := fz_lst (fzl_cons (fz_str (z := "told") (by decide +kernel) (by decide) 4) (fzl_cons (fz_tup (fzl_cons (thing_fz h) (fzl_cons (fz_int (i := (q : Nat)) (by omega) 3) (fzl_nil 3)))) (fzl_nil 4)))
  exact this.fit (by decide) (by decide)
theorem thing_tup {w : Str} {t : PyData} {e : List Int} (h : Thing w t e) : ∃ l, t = .tuple l := by
  rcases h with ⟨_, _, rfl, _⟩ | ⟨_, _, _, rfl, _⟩ | ⟨_, _, rfl, _⟩ <;> exact ⟨_, rfl⟩
theorem thing_no {w : Str} {t : PyData} {e : List Int} (h : Thing w t e) : isNo t = false := by
  rcases h with ⟨_, _, rfl, _⟩ | ⟨_, _, _, rfl, _⟩ | ⟨_, _, rfl, _⟩ <;> rfl
theorem sh_bytes (p : Nat) : SeqAt.shaped (.list [.str "bytes", .int (p : Nat), .bool true]) = true := by
  unfold SeqAt.shaped
  have h : PyData.strOk "bytes" = true := by decide +kernel
  simp [PyData.canLay0, PyData.canLayAll0, PyData.depth, PyData.depthAll, h]
theorem eqv_bytes (p : Nat) : PyData.eqv (.list [.str "bytes", .int (p : Nat), .bool true]) (.list [.str "bytes", .int (p : Nat), .bool true]) = true := by
  simp [PyData.eqv, PyData.eqvAll]
theorem go__law_any_right : Go__law_any_right := by
  rintro as ⟨w, xs, rfl, hw, ho, hl⟩
  unfold w__law_any_right
  walk_at "go"
  have hz := sizeLine_eq
  have p10 : (2 : Nat) ^ 10 = 1024 := by decide
  have p20 : (2 : Nat) ^ 20 = 1048576 := by decide
  have hl2 : xs.length < 2 ^ 20 := by omega
  refine ⟨draw_ok (by omega) (by omega), draw_use fun b b0 b1 => ?_, fun _ _ z => z⟩
  walk_at "dt"
  refine ⟨by decide, pick_ok (by simp) (show 3 < 2 ^ 20 by decide), pick_use (pick_ints (l := [0, 0, b]) fun j hj => ?_), fun _ _ z => z⟩
  have hj2 : 0 ≤ j ∧ j ≤ xs.length := by
    simp only [List.mem_cons, List.not_mem_nil, or_false] at hj
    omega
  obtain ⟨a, rfl⟩ := Int.eq_ofNat_of_zero_le hj2.1
  have ha : a ≤ xs.length := by omega
  walk_at "dt"
  refine ⟨⟨w, xs, a, rfl, hw, ho, hl2, ha⟩, ?_, fun _ _ z => z⟩
  rintro d ⟨w', xs', a', e, rfl⟩
  obtain ⟨rfl, rfl, rfl⟩ := rd_inj3 e
  cases hr : rdW w xs a with
  | bad p =>
    have hp := rdW_bad ho hr ha
    unfold ownD pairD
    walk_at "dt"
    refine ⟨⟨w, xs, a, rfl, hw, ho, hl, ha⟩, ?_, ?_⟩
    · rintro d ⟨w', xs', a', v, q, e, hg, rfl⟩
      obtain ⟨rfl, rfl, rfl⟩ := rd_inj3 e
      rw [hr] at hg
      cases hg
    · rintro c x ⟨w', xs', a', p', e, hg, rfl, rfl⟩
      obtain ⟨rfl, rfl, rfl⟩ := rd_inj3 e
      rw [hr] at hg
      cases hg
      refine ⟨"bytes", List.mem_cons_self .., ?_⟩
      walk_at "dt"
      refine ⟨by decide, sh_bytes p, sh_bytes p, ?_⟩
      rw [eqv_bytes, if_neg (by decide)]
      walk_at "dt"
      refine ⟨⟨w, xs, 0, rfl, hw, ho, hl2, Nat.zero_le _⟩, ?_, fun _ _ z => z⟩
      rintro d ⟨w', xs', a', e, rfl⟩
      obtain ⟨rfl, rfl, rfl⟩ := rd_inj3 (a := 0) e
      cases hr0 : rdW w xs 0 with
      | bad p0 =>
        have hp0 := rdW_bad ho hr0 (Nat.zero_le _)
        have hf := fit_bytes (p := p0) (by omega)
        unfold ownD pairD
        walk_at "dt"
        refine ⟨by decide, ?_⟩
        walk_at "dt"
        refine ⟨⟨w, xs, rfl, hw, ho, hl2⟩, ?_, ?_⟩
        · rintro d ⟨w', xs', e, hg⟩
          obtain ⟨rfl, rfl⟩ := rd_inj2 e
          rw [hr0] at hg
          cases hg
        · rintro c x ⟨w', xs', p', e, hg, rfl, rfl⟩
          obtain ⟨rfl, rfl⟩ := rd_inj2 e
          have ep : p' = p0 := by
            rcases hg with hg | ⟨v, hg, _⟩
            · rw [hr0] at hg; cases hg; rfl
            · rw [hr0] at hg; cases hg
          subst ep
          refine ⟨"bytes", List.mem_cons_self .., hf.sh, hf.len, by have := hf.dp; omega, hf.sh, hf.len, by have := hf.dp; omega, ?_⟩
          exact (by show PyData.bool _ = PyData.bool true; simp)
      | ok v0 q0 =>
        obtain ⟨hT0, hq0, hq1⟩ := rdW_canon ho hl hw hr0
        have hf := fit_told hT0
        have hf2 := fit_bytes (p := q0) (by omega)
        obtain ⟨l0, rfl⟩ := thing_tup hT0
        unfold ownD pairD
        walk_at "dt"
        refine ite_use (fun hq => ?_) fun hq => ?_
        · refine ⟨by decide, ?_⟩
          walk_at "dt"
          have hq : q0 = xs.length := by omega
          subst hq
          refine ⟨⟨w, xs, rfl, hw, ho, hl2⟩, ?_, ?_⟩
          · rintro d ⟨w', xs', e, hg⟩
            obtain ⟨rfl, rfl⟩ := rd_inj2 e
            rw [hr0] at hg
            cases hg
            try walk_at "dw"
            refine ⟨hf.sh, hf.len, by have := hf.dp; omega, hf.sh, hf.len, by have := hf.dp; omega, ?_⟩
            exact (by show PyData.bool _ = PyData.bool true; simp)
          · rintro c x ⟨w', xs', p', e, hg, rfl, rfl⟩
            obtain ⟨rfl, rfl⟩ := rd_inj2 e
            rcases hg with hg | ⟨v, hg, hlt⟩
            · rw [hr0] at hg; cases hg
            · rw [hr0] at hg; cases hg; exact absurd hlt (Nat.lt_irrefl _)
        · refine ⟨by decide, ?_⟩
          walk_at "dt"
          refine ⟨⟨w, xs, rfl, hw, ho, hl2⟩, ?_, ?_⟩
          · rintro d ⟨w', xs', e, hg⟩
            obtain ⟨rfl, rfl⟩ := rd_inj2 e
            rw [hr0] at hg
            cases hg
            exact absurd rfl hq
          · rintro c x ⟨w', xs', p', e, hg, rfl, rfl⟩
            obtain ⟨rfl, rfl⟩ := rd_inj2 e
            have ep : p' = q0 := by
              rcases hg with hg | ⟨v, hg, _⟩
              · rw [hr0] at hg; cases hg
              · rw [hr0] at hg; cases hg; rfl
            subst ep
            refine ⟨"bytes", List.mem_cons_self .., hf2.sh, hf2.len, by have := hf2.dp; omega, hf2.sh, hf2.len, by have := hf2.dp; omega, ?_⟩
            exact (by show PyData.bool _ = PyData.bool true; simp)
  | ok v q =>
    obtain ⟨hT, hq2, hq3⟩ := rdW_canon ho hl hw hr
    obtain ⟨l, rfl⟩ := thing_tup hT
    unfold ownD pairD
    walk_at "dt"
    refine ⟨⟨w, xs, a, rfl, hw, ho, hl, ha⟩, ?_, ?_⟩
    · rintro d ⟨w', xs', a', v', q', e, hg, rfl⟩
      obtain ⟨rfl, rfl, rfl⟩ := rd_inj3 e
      rw [hr] at hg
      cases hg
      have hf := fit_told2 (q := q) hT (by omega)
      unfold pairD
      walk_at "dt"
      refine ⟨hf.sh, hf.len, by have := hf.dp; omega, by decide, by decide, hf.sh, hf.len, by have := hf.dp; omega, ?_⟩
      rw [if_neg (by simp)]
      refine ⟨⟨w, _, _, rfl, hT⟩, fun d hd => ?_, fun _ _ z => z⟩
      have hd2 := hd w _ _ rfl hT
      subst hd2
      rw [cut_oD, DL.cutI rfl rfl]
      refine ⟨sh_tup _, sh_tup _, ?_⟩
      rw [show (xs.drop a).take (q - a) = sl xs a q from rfl, eqv_tup, decide_eq_true rfl, if_neg (by decide)]
      walk_at "dt"
      refine ⟨⟨w, xs, 0, rfl, hw, ho, hl2, Nat.zero_le _⟩, ?_, fun _ _ z => z⟩
      rintro d ⟨w', xs', a', e, rfl⟩
      obtain ⟨rfl, rfl, rfl⟩ := rd_inj3 (a := 0) e
      cases hr0 : rdW w xs 0 with
      | bad p0 =>
        have hp0 := rdW_bad ho hr0 (Nat.zero_le _)
        have hf := fit_bytes (p := p0) (by omega)
        unfold ownD pairD
        walk_at "dt"
        refine ⟨by decide, ?_⟩
        walk_at "dt"
        refine ⟨⟨w, xs, rfl, hw, ho, hl2⟩, ?_, ?_⟩
        · rintro d ⟨w', xs', e, hg⟩
          obtain ⟨rfl, rfl⟩ := rd_inj2 e
          rw [hr0] at hg
          cases hg
        · rintro c x ⟨w', xs', p', e, hg, rfl, rfl⟩
          obtain ⟨rfl, rfl⟩ := rd_inj2 e
          have ep : p' = p0 := by
            rcases hg with hg | ⟨v, hg, _⟩
            · rw [hr0] at hg; cases hg; rfl
            · rw [hr0] at hg; cases hg
          subst ep
          refine ⟨"bytes", List.mem_cons_self .., hf.sh, hf.len, by have := hf.dp; omega, hf.sh, hf.len, by have := hf.dp; omega, ?_⟩
          exact (by show PyData.bool _ = PyData.bool true; simp)
      | ok v0 q0 =>
        obtain ⟨hT0, hq0, hq1⟩ := rdW_canon ho hl hw hr0
        have hf := fit_told hT0
        have hf2 := fit_bytes (p := q0) (by omega)
        obtain ⟨l0, rfl⟩ := thing_tup hT0
        unfold ownD pairD
        walk_at "dt"
        refine ite_use (fun hq => ?_) fun hq => ?_
        · refine ⟨by decide, ?_⟩
          walk_at "dt"
          have hq : q0 = xs.length := by omega
          subst hq
          refine ⟨⟨w, xs, rfl, hw, ho, hl2⟩, ?_, ?_⟩
          · rintro d ⟨w', xs', e, hg⟩
            obtain ⟨rfl, rfl⟩ := rd_inj2 e
            rw [hr0] at hg
            cases hg
            try walk_at "dw"
            refine ⟨hf.sh, hf.len, by have := hf.dp; omega, hf.sh, hf.len, by have := hf.dp; omega, ?_⟩
            exact (by show PyData.bool _ = PyData.bool true; simp)
          · rintro c x ⟨w', xs', p', e, hg, rfl, rfl⟩
            obtain ⟨rfl, rfl⟩ := rd_inj2 e
            rcases hg with hg | ⟨v, hg, hlt⟩
            · rw [hr0] at hg; cases hg
            · rw [hr0] at hg; cases hg; exact absurd hlt (Nat.lt_irrefl _)
        · refine ⟨by decide, ?_⟩
          walk_at "dt"
          refine ⟨⟨w, xs, rfl, hw, ho, hl2⟩, ?_, ?_⟩
          · rintro d ⟨w', xs', e, hg⟩
            obtain ⟨rfl, rfl⟩ := rd_inj2 e
            rw [hr0] at hg
            cases hg
            exact absurd rfl hq
          · rintro c x ⟨w', xs', p', e, hg, rfl, rfl⟩
            obtain ⟨rfl, rfl⟩ := rd_inj2 e
            have ep : p' = q0 := by
              rcases hg with hg | ⟨v, hg, _⟩
              · rw [hr0] at hg; cases hg
              · rw [hr0] at hg; cases hg; rfl
            subst ep
            refine ⟨"bytes", List.mem_cons_self .., hf2.sh, hf2.len, by have := hf2.dp; omega, hf2.sh, hf2.len, by have := hf2.dp; omega, ?_⟩
            exact (by show PyData.bool _ = PyData.bool true; simp)
    · rintro c x ⟨w', xs', a', p', e, hg, rfl, rfl⟩
      obtain ⟨rfl, rfl, rfl⟩ := rd_inj3 e
      rw [hr] at hg
      cases hg
end K04

namespace K04
open PySem PySem.Spec
open PyProof.Rows L2 DL DW
local macro_rules | `(tactic| walk_at "dw0") => `(tactic| simp only [DW.startS, DW.AV.sv, List.map_cons, List.map_nil, List.length_cons, List.length_nil, List.replicate_succ, List.replicate_zero, List.cons_append, List.nil_append, Nat.reduceAdd, Nat.reduceSub])
local macro_rules | `(tactic| walk_at "dw") => `(tactic| simp only [DW.wSeq, DW.wNext, DW.wIfS, DW.wRet, DW.wRetN, DW.wBreak, DW.wCont, DW.wSet, DW.wAsg, DW.wNew, DW.wNewL, DW.wNewC, DW.wExpr, DW.wApp, DW.wExt, DW.wExtA, DW.wPop, DW.wAug, DW.wRaise, DW.wVar, DW.wC, DW.wRaw, DW.wOp, DW.wUn, DW.waNil, DW.waCons, DW.wCB, DW.wTup, DW.wLst, DW.wTest, DW.wYes, DW.wAnd, DW.wOr, DW.wNot, DW.wTr, DW.gTr, DW.wAndV, DW.wOrV, DW.wNotV, DW.wIf, DW.rdq, DW.frz, DW.asg, DW.avf, DW.wuNil, DW.wuCons, DW.wCall, DW.wCallK, DW.wNotKD, DW.wIxKD, DW.wCallV, DW.wHear, DW.wgName, DW.wgTup, DW.wgCons, DW.wgNil,
  DW.wParN, DW.wnNil, DW.wnD, DW.wnNew, DW.asgN, DW.gAdd, DW.gSub, DW.gMul, DW.gMod, DW.gDiv, DW.gPow, DW.gLt, DW.gLe, DW.gGt, DW.gGe, DW.gEq, DW.gNe, DW.gEqS, DW.gNeS, DW.pick, List.filterMap_cons, List.filterMap_nil, DW.gInB, DW.gIs, DW.gIsNot, DW.gIx, DW.gNeg, DW.gLen, DW.gToT, DW.gToL, DW.gInt, DW.gAbs, DW.gRepr, DW.gMin2, DW.gMax2, DW.gOrd, DW.gStr, DW.gAddI, DW.gSubI, DW.gIsB, DW.gIsntB, DW.gRep, DW.gSorted, DW.wJoin, DW.gJoin, DW.wIndex, DW.gIndex, DW.wRg1, DW.wRg2, DW.LT.mk, DW.wiSeq, DW.wiRng1, DW.wiRng2, DW.wiRngB, DW.wiEnumX, DW.wiEnum, DW.wipeS, DL.truth, DL.isNo, DW.wIsi, DW.wChain, DW.wSl, DW.gSl, DW.gRev, DW.woNone, DW.woSome, DW.wFor_eq, DW.wLc_eq, DW.wNewLc_eq, DW.one_ord, DW.one_len, DL.oD_len,
  DW.eqv_int, DW.sh_intT, true_and, List.getElem?_cons_zero, List.getElem?_cons_succ, List.set_cons_zero, List.set_cons_succ, List.length_cons, List.length_nil, if_true, if_false, decide_eq_true_eq, Bool.false_eq_true, reduceIte, List.cons_append, List.nil_append, Nat.reduceAdd, Bool.not_true, Bool.not_false])
local macro_rules | `(tactic| walk_at "ds") => `(tactic| repeat ((with_reducible refine DW.Kt_i ?_); (walk_at "dw")))
local macro_rules | `(tactic| walk_at "go") => `(tactic| ((walk_at "dw0"); (walk_at "dw"); (walk_at "ds")))
local macro_rules | `(tactic| walk_at "dt") => `(tactic| ((try walk_at "dw"); (walk_at "ds")))
/-! ### the law itself -/
abbrev s__law_heap : Stmt := top 37
abbrev N__law_heap : List Str := ["_law_script", "_law_base", "_law_cells", "_law_stir", "_law_cell"]
theorem sc__law_heap : FnScope N__law_heap ["_law_script", "_law_base"] (defScope s__law_heap) := ⟨rfl, rfl, rfl, by decide +kernel, rfl, by decide +kernel, by decide +kernel⟩
section
variable {P : Program} {w : World} {K : PySem.W.Frag} {mg : Str → Option Value} {base : Heap} {f : Addr} {fd : FuncData}
theorem ok__law_heap (F : FnP K "_law_heap" s__law_heap f fd) (T : Fx mg) : FnG P w K mg base (L2.CX P w) 1 f fd ["_law_script", "_law_base"] (spHeap K) := by
  have nd := sc__law_heap.nd
  refine fn_g F sc__law_heap (fun vs H Q E h => ?_) (fun cdv A outer s H vs Q E hG hr h => ?_)
  · obtain ⟨a, ns, b, rfl, _⟩ := h
    rfl
  refine ⟨_, (pss_cons (ps_setLc (i := 2) (own := [("_law_cell", 4)]) (g := gName 4) rfl nd rfl rfl (sw_true rfl rfl rfl (by decide +kernel)) (pi_list (pe_slice sl_list (pv 0) po_none (po_some pe_int))) (blkOk_by (own := [("_law_cell", 4)]) (N := N__law_heap) (sc := defScope s__law_heap) (by decide +kernel)) (fun _ _ _ _ _ => (pg_name (i := 4) nd rfl (Or.inl rfl))) (fun _ _ _ _ _ => pts_nil) (fun _ _ _ _ _ => (xB (rAbs) cl_abs T.b_abs (pa_cons (xT (rInt1) cl_int T.b_int (pa_cons (pv 4) pa_nil)) pa_nil))))
 (pss_cons (ps_set (i := 3) nd rfl (Or.inl rfl) (pe_op op_plus pe_int (pe_op op_mulW pe_int (pv 1))))
 (pss_cons (ps_for (passes_of rfl) rfl (pi_list (pv 2)) (pg_name (i := 4) nd rfl (Or.inl rfl))
 (pss_one (ps_set (i := 3) nd rfl (Or.inl rfl) (pe_op op_mod (xT (rInt1) cl_int T.b_int (pa_cons (pe_op op_plus (pe_op op_plus (pe_op op_mulW (pv 3) pe_int) (pe_op op_mod (pv 4) pe_int)) pe_int) pa_nil)) pe_int))))
 (pss_one (ps_ret (pe_lst (pa_cons (pe_revL (pe_lc (own := [("_law_cell", 4)]) (g := gName 4) rfl nd (pi_list (pv 2)) (blkOk_by (own := [("_law_cell", 4)]) (N := N__law_heap) (sc := defScope s__law_heap) (by decide +kernel)) (fun _ _ _ _ _ => (pg_name (i := 4) nd rfl (Or.inl rfl))) (fun _ _ _ _ _ => pts_one (pt_cmpR op_ge (pv 4) (pe_op op_pow pe_int pe_int) (nomark _))) (fun _ _ _ _ _ => (pv 4)))) (pa_cons (pv 3) pa_nil)))))))), ?_⟩
  obtain ⟨a, ns, b, rfl, hS, b0, b1, q⟩ := h
  exact rd_heap hS (by omega) (by omega) ⟨b0, b1⟩ (by omega) (by omega) q
end
abbrev s_law : Stmt := top 59
abbrev N_law : List Str := ["_law_script", "_law_heap_here", "_law_words", "_law_things", "_law_row", "_law_ends", "_law_at", "_law_place", "_law_word", "_law_one", "_law_other", "_law_first", "_law_second", "_law_bent_here", "_law_turn"]
theorem sc_law : FnScope N_law ["_law_script"] (defScope s_law) := ⟨rfl, rfl, rfl, by decide +kernel, rfl, by decide +kernel, by decide +kernel⟩
def w_law : WS := (wSeq (wSet 2 (wLc (wiRng1 (waCons (wC (.int 4)) waNil)) (wgName 14) wYes (wCall pre__law_pick post__law_pick exc__law_pick (wuCons (wVar 1) (wuCons (wLst (waCons (wC (.str "numbers")) (waCons (wC (.str "range")) (waCons (wC (.str "entries")) (waCons (wC (.str "writes")) waNil))))) wuNil))) [14]))
 (wSeq (wSet 3 (wLc (wiSeq (wVar 2)) (wgName 8) wYes (wCall pre__law_thing post__law_thing exc__law_thing (wuCons (wVar 1) (wuCons (wVar 8) wuNil))) [8]))
 (wSeq (wParN [4, 5] (wnD (wTup waNil) (wnNew waNil wnNil)))
 (wSeq (wFor (wiRng1 (waCons (wC (.int 4)) waNil)) (wgName 6)
 (wSeq (wSet 4 (wOp gAdd (wVar 4) (wCall pre__law_put post__law_put exc__law_put (wuCons (wOp gIx (wVar 2) (wVar 6)) (wuCons (wOp gIx (wVar 3) (wVar 6)) wuNil)))))
 (wApp 5 (wUn gLen (wVar 4)))))
 (wSeq (wSet 7 (wC (.int 0)))
 (wSeq (wFor (wiRng1 (waCons (wC (.int 4)) waNil)) (wgName 6)
 (wSeq (wIfS (wTest (wOp gNeS (wUn gRepr (wCall pre__law_got post__law_got exc__law_got (wuCons (wOp gIx (wVar 2) (wVar 6)) (wuCons (wVar 4) (wuCons (wVar 7) wuNil))))) (wUn gRepr (wTup (waCons (wOp gIx (wVar 3) (wVar 6)) (waCons (wOp gIx (wVar 5) (wVar 6)) waNil)))))) (wRet (wC (.bool false)))
 wNext)
 (wSet 7 (wOp gIx (wVar 5) (wVar 6)))))
 (wSeq (wFor (wiSeq (wLst (waCons (wC (.str "numbers")) (waCons (wC (.str "range")) (waCons (wC (.str "entries")) (waCons (wC (.str "writes")) waNil)))))) (wgName 8)
 (wSeq (wParN [9, 10] (wnD (wCall pre__law_thing post__law_thing exc__law_thing (wuCons (wVar 1) (wuCons (wVar 8) wuNil))) (wnD (wCall pre__law_thing post__law_thing exc__law_thing (wuCons (wVar 1) (wuCons (wVar 8) wuNil))) wnNil)))
 (wSeq (wParN [11, 12] (wnD (wCall pre__law_put post__law_put exc__law_put (wuCons (wVar 8) (wuCons (wVar 9) wuNil))) (wnD (wCall pre__law_put post__law_put exc__law_put (wuCons (wVar 8) (wuCons (wVar 10) wuNil))) wnNil)))
 (wSeq (wIfS (wAnd (wTest (wOp gNe (wVar 9) (wVar 10))) (wOr (wTest (wOp gEq (wSl (wVar 12) woNone (woSome (wUn gLen (wVar 11)))) (wVar 11))) (wTest (wOp gEq (wSl (wVar 11) woNone (woSome (wUn gLen (wVar 12)))) (wVar 12))))) (wRet (wC (.bool false)))
 wNext)
 (wSeq (wIfS (wTest (wOp gNeS (wUn gRepr (wCall pre__law_read post__law_read exc__law_read (wuCons (wVar 8) (wuCons (wVar 11) (wuCons (wC (.int 0)) wuNil))))) (wUn gRepr (wTup (waCons (wVar 9) (waCons (wUn gLen (wVar 11)) waNil)))))) (wRet (wC (.bool false)))
 wNext)
 (wSeq (wSet 13 (wCall pre__law_bent post__law_bent exc__law_bent (wuCons (wVar 1) (wuCons (wVar 11) wuNil))))
 (wIfS (wOr (wNot (wTest (wCall pre__law_any_right post__law_any_right exc__law_any_right (wuCons (wVar 1) (wuCons (wVar 8) (wuCons (wVar 13) wuNil)))))) (wNot (wTest (wCall pre__law_any_right post__law_any_right exc__law_any_right (wuCons (wVar 1) (wuCons (wCall pre__law_pick post__law_pick exc__law_pick (wuCons (wVar 1) (wuCons (wVar 2) wuNil))) (wuCons (wVar 13) wuNil))))))) (wRet (wC (.bool false)))
 wNext)))))))
 (wRet (wAndV (wOp gEqS (wUn gRepr (wCallK pre_read_whole post_read_whole exc_read_whole [0, 1] 0 (List.length [("word" : Str), ("octets" : Str)]) wuNil (wuCons (wC (.str "writes")) (wuCons (wCallK pre_put_writes post_put_writes exc_put_writes [0] 0 (List.length [("pairs" : Str)]) wuNil (wuCons (wTup waNil) wuNil)) wuNil)))) (wC (.str "()"))) (wOp gEq (wCallK pre_get_range post_get_range exc_get_range [1, 0] 0 (List.length [("at" : Str), ("octets" : Str)]) wuNil (wuCons (wC (.int 0)) (wuCons (wTup (waCons (wC (.int 0)) (waCons (wC (.int 0)) waNil))) wuNil))) (wTup (waCons (wTup (waCons (wC .none) (waCons (wC .none) waNil))) (waCons (wC (.int 2)) waNil)))))))))))))
def Go_law : Prop := w_law [none, some .drw, none, none, none, none, none, none, none, none, none, none, none, none, none] ⟨fun _ => False, fun x _ => x = .bool true, fun _ => False, fun _ => False, fun _ _ _ => False⟩
abbrev tabsL (K : PySem.W.Frag) : List (Addr × Str) := [((He.cT K ("_law_any_right", none)).2, qLam "_law_any_right")]
def spLaw (K : PySem.W.Frag) : Sp := fun vs H Q _ => ∃ (a : Addr) (ns : List Int), vs = [.ref a] ∧ SqL K H a (ns.map V.int) ∧ (∀ p ∈ tabsL K, H p.1 = some (.tbl #[])) ∧ ∀ H', Q (.bl true) H'
section
variable {P : Program} {w : World} {K : PySem.W.Frag} {mg : Str → Option Value} {base : Heap} {f : Addr} {fd : FuncData}
theorem ok_law (go : Go_law) (F : FnP K "law" s_law f fd) (T : Fx mg) (C__law_heap : CaG P w K mg base (L2.CX P w) 1 "_law_heap" ["_law_script", "_law_base"] (spHeap K)) (C__law_pick : Ca5 P w K mg base (L2.CX P w) 2 "_law_pick" ["_law_heap_here", "_law_some"] (spU K (erL K) anyM pre__law_pick post__law_pick exc__law_pick)) (C__law_thing : Ca5 P w K mg base (L2.CX P w) 5 "_law_thing" ["_law_heap_here", "_law_word"] (spU K (erL K) anyM pre__law_thing post__law_thing exc__law_thing)) (C__law_put : Ca5 P w K mg base (L2.CX P w) 6 "_law_put" ["_law_word", "_law_thing_here"] (spU K (erL K) anyM pre__law_put post__law_put exc__law_put)) (C__law_got : Ca5 P w K mg base (L2.CX P w) 8 "_law_got" ["_law_word", "_law_octets", "_law_at"] (spU K (erL K) anyM pre__law_got post__law_got exc__law_got)) (C__law_read : Ca5 P w K mg base (L2.CX P w) 5 "_law_read" ["_law_word", "_law_octets", "_law_at"] (spU K (erL K) anyM pre__law_read post__law_read exc__law_read)) (C__law_bent : Ca5 P w K mg base (L2.CX P w) 3 "_law_bent" ["_law_heap_here", "_law_octets"] (spU K (erL K) anyM pre__law_bent post__law_bent exc__law_bent)) (C__law_any_right : Ca5 P w K mg base (L2.CX P w) 13 "_law_any_right" ["_law_heap_here", "_law_word", "_law_octets"] (spU K (erL K) (fun M => HasTb M (tabsL K)) pre__law_any_right post__law_any_right exc__law_any_right)) (C_read_whole_K0_word_octets : CaN P w K mg base (L2.CX P w) 9 "read_whole" ["word", "octets"] 0 ["word", "octets"] [0, 1] (spU K (erL K) anyM pre_read_whole post_read_whole exc_read_whole)) (C_put_writes_K0_pairs : CaN P w K mg base (L2.CX P w) 4 "put_writes" ["pairs"] 0 ["pairs"] [0] (spU K (erL K) anyM pre_put_writes post_put_writes exc_put_writes)) (C_get_range_K0_at_octets : CaN P w K mg base (L2.CX P w) 5 "get_range" ["octets", "at"] 0 ["at", "octets"] [1, 0] (spU K (erL K) anyM pre_get_range post_get_range exc_get_range)) : FnG P w K mg base CX0 15 f fd ["_law_script"] (spLaw K) := by
  have nd := sc_law.nd
  refine fn_g F sc_law (fun vs H Q E h => ?_) (fun cdv A out s H vs Q E hG hr h => ?_)
  · obtain ⟨a, ns, rfl, _⟩ := h
    rfl
  obtain ⟨ts, dR⟩ : ∃ ts, DSs K (erL K) W0 (fun M => HasTb M (tabsL K)) (cxOf CX0 P w K mg base N_law "law" (defScope s_law) f cdv A out s H E).nox ((defBody s_law).drop 1) ts w_law := ⟨_, (dss_cons (ds_setLc (i := 2) (own := [("_law_turn", 14)]) (g := (gName 14)) rfl nd rfl rfl (sw_true rfl rfl rfl (by decide +kernel)) (di_rng1 rfl T.b_range (da_cons' (de_int pe_int) da_nil')) (blkOk_by (own := [("_law_turn", 14)]) (N := N_law) (sc := defScope s_law) (by decide +kernel)) (tin_name (by decide)) (fun _ _ _ _ _ => (dg_name (pg_name (i := 14) nd rfl (Or.inl rfl)))) (fun _ _ _ _ _ => dts_nil) (fun _ _ _ _ _ => (de_call C__law_pick hG (hr.mono (by decide)) passN (fun _ _ => trivial) (du_cons (de_var (pv 1)) (du_cons (de_lst (da_cons' (de_str pe_str) (da_cons' (de_str pe_str) (da_cons' (de_str pe_str) (da_cons' (de_str pe_str) da_nil'))))) du_nil)))))
 (dss_cons (ds_setLc (i := 3) (own := [("_law_word", 8)]) (g := (gName 8)) rfl nd rfl rfl (sw_true rfl rfl rfl (by decide +kernel)) (di_seq rfl (de_var (pv 2))) (blkOk_by (own := [("_law_word", 8)]) (N := N_law) (sc := defScope s_law) (by decide +kernel)) (tin_name (by decide)) (fun _ _ _ _ _ => (dg_name (pg_name (i := 8) nd rfl (Or.inl rfl)))) (fun _ _ _ _ _ => dts_nil) (fun _ _ _ _ _ => (de_call C__law_thing hG (hr.mono (by decide)) passN (fun _ _ => trivial) (du_cons (de_var (pv 1)) (du_cons (de_var (pv 8)) du_nil)))))
 (dss_cons (ds_parN (fun h => ps_par (i := 4) (j := 5) (by rfl) nd rfl rfl (by decide) rfl rfl h (by rfl)) (dn_d (de_tup da_nil') (dn_new da_nil' dn_nil)))
 (dss_cons (ds_for PassesOwn.never rfl (di_rng1 rfl T.b_range (da_cons' (de_int pe_int) da_nil')) (dg_name (pg_name (i := 6) nd rfl (Or.inl rfl)))
 (dss_cons (ds_set (i := 4) nd rfl (Or.inl rfl) (de_op (op_addW rfl) os_add (de_var (pv 4)) (de_call C__law_put hG (hr.mono (by decide)) passN (fun _ _ => trivial) (du_cons (de_ix rfl (de_var (pv 2)) (de_var (pv 6))) (du_cons (de_ix rfl (de_var (pv 3)) (de_var (pv 6))) du_nil)))))
 (dss_one (ds_appD rfl (fun h => ps_expr (pe_bm PySem.F.plainAttrs_list PySem.F.slot_list_append PySem.F.type_list_append mt_append (pv 5) h)) (de_b1 (cl_lenK K rfl) us_len T.b_len (de_var (pv 4)))))))
 (dss_cons (ds_set (i := 7) nd rfl (Or.inl rfl) (de_int pe_int))
 (dss_cons (ds_for PassesOwn.never rfl (di_rng1 rfl T.b_range (da_cons' (de_int pe_int) da_nil')) (dg_name (pg_name (i := 6) nd rfl (Or.inl rfl)))
 (dss_cons (ds_if (dt_cmp op_ne os_neS (nomark _) (de_b1 (cl_reprK K rfl hG (hu64 hr)) us_repr T.b_repr (de_call C__law_got hG (hr.mono (by decide)) passN (fun _ _ => trivial) (du_cons (de_ix rfl (de_var (pv 2)) (de_var (pv 6))) (du_cons (de_var (pv 4)) (du_cons (de_var (pv 7)) du_nil))))) (de_b1 (cl_reprK K rfl hG (hu64 hr)) us_repr T.b_repr (de_tup (da_cons' (de_ix rfl (de_var (pv 3)) (de_var (pv 6))) (da_cons' (de_ix rfl (de_var (pv 5)) (de_var (pv 6))) da_nil'))))) (dss_one (ds_ret (de_bl pe_bl)))
 dss_nil)
 (dss_one (ds_set (i := 7) nd rfl (Or.inl rfl) (de_ix rfl (de_var (pv 5)) (de_var (pv 6)))))))
 (dss_cons (ds_for PassesOwn.never rfl (di_seq rfl (de_lst (da_cons' (de_str pe_str) (da_cons' (de_str pe_str) (da_cons' (de_str pe_str) (da_cons' (de_str pe_str) da_nil')))))) (dg_name (pg_name (i := 8) nd rfl (Or.inl rfl)))
 (dss_cons (ds_parN (fun h => ps_par (i := 9) (j := 10) (by rfl) nd rfl rfl (by decide) rfl rfl h (by rfl)) (dn_d (de_call C__law_thing hG (hr.mono (by decide)) passN (fun _ _ => trivial) (du_cons (de_var (pv 1)) (du_cons (de_var (pv 8)) du_nil))) (dn_d (de_call C__law_thing hG (hr.mono (by decide)) passN (fun _ _ => trivial) (du_cons (de_var (pv 1)) (du_cons (de_var (pv 8)) du_nil))) dn_nil)))
 (dss_cons (ds_parN (fun h => ps_par (i := 11) (j := 12) (by rfl) nd rfl rfl (by decide) rfl rfl h (by rfl)) (dn_d (de_call C__law_put hG (hr.mono (by decide)) passN (fun _ _ => trivial) (du_cons (de_var (pv 8)) (du_cons (de_var (pv 9)) du_nil))) (dn_d (de_call C__law_put hG (hr.mono (by decide)) passN (fun _ _ => trivial) (du_cons (de_var (pv 8)) (du_cons (de_var (pv 10)) du_nil))) dn_nil)))
 (dss_cons (ds_if (dt_w (dw_and (dt_cmp (op_neW rfl (hu64 hr)) os_ne (nomark _) (de_var (pv 9)) (de_var (pv 10))) (dw_and1 (dt_w (dw_or (dt_cmp (op_eqW rfl (hu64 hr)) os_eq (nomark _) (de_sl rfl (de_var (pv 12)) do_none (do_some (de_b1 (cl_lenK K rfl) us_len T.b_len (de_var (pv 11))))) (de_var (pv 11))) (dw_or1 (dt_cmp (op_eqW rfl (hu64 hr)) os_eq (nomark _) (de_sl rfl (de_var (pv 11)) do_none (do_some (de_b1 (cl_lenK K rfl) us_len T.b_len (de_var (pv 12))))) (de_var (pv 12))))))))) (dss_one (ds_ret (de_bl pe_bl)))
 dss_nil)
 (dss_cons (ds_if (dt_cmp op_ne os_neS (nomark _) (de_b1 (cl_reprK K rfl hG (hu64 hr)) us_repr T.b_repr (de_call C__law_read hG (hr.mono (by decide)) passN (fun _ _ => trivial) (du_cons (de_var (pv 8)) (du_cons (de_var (pv 11)) (du_cons (de_int pe_int) du_nil))))) (de_b1 (cl_reprK K rfl hG (hu64 hr)) us_repr T.b_repr (de_tup (da_cons' (de_var (pv 9)) (da_cons' (de_b1 (cl_lenK K rfl) us_len T.b_len (de_var (pv 11))) da_nil'))))) (dss_one (ds_ret (de_bl pe_bl)))
 dss_nil)
 (dss_cons (ds_set (i := 13) nd rfl (Or.inl rfl) (de_call C__law_bent hG (hr.mono (by decide)) passN (fun _ _ => trivial) (du_cons (de_var (pv 1)) (du_cons (de_var (pv 11)) du_nil))))
 (dss_one (ds_if (dt_w (dw_or (dt_not (dt_val (de_call C__law_any_right hG (hr.mono (by decide)) passN (fun _ h => h) (du_cons (de_var (pv 1)) (du_cons (de_var (pv 8)) (du_cons (de_var (pv 13)) du_nil)))))) (dw_or1 (dt_not (dt_val (de_call C__law_any_right hG (hr.mono (by decide)) passN (fun _ h => h) (du_cons (de_var (pv 1)) (du_cons (de_call C__law_pick hG (hr.mono (by decide)) passN (fun _ _ => trivial) (du_cons (de_var (pv 1)) (du_cons (de_var (pv 2)) du_nil))) (du_cons (de_var (pv 13)) du_nil))))))))) (dss_one (ds_ret (de_bl pe_bl)))
 dss_nil))))))))
 (dss_one (ds_ret (de_and (de_cmp op_eq os_eqS (nomark _) (de_b1 (cl_reprK K rfl hG (hu64 hr)) us_repr T.b_repr (de_call0 C_read_whole_K0_word_octets hG (hr.mono (by decide)) passN (fun _ _ => trivial) (dk_cons (de_str pe_str) (dk_cons (de_call0 C_put_writes_K0_pairs hG (hr.mono (by decide)) passN (fun _ _ => trivial) (dk_cons (de_tup da_nil') dk_nil)) dk_nil)))) (de_str pe_str)) (de_one (de_cmp (op_eqW rfl (hu64 hr)) os_eq (nomark _) (de_call0 C_get_range_K0_at_octets hG (hr.mono (by decide)) passN (fun _ _ => trivial) (dk_cons (de_int pe_int) (dk_cons (de_tup (da_cons' (de_int pe_int) (da_cons' (de_int pe_int) da_nil'))) dk_nil))) (de_tup (da_cons' (de_tup (da_cons' (de_non pe_non) (da_cons' (de_non pe_non) da_nil'))) (da_cons' (de_int pe_int) da_nil')))))))))))))))⟩
  refine ⟨_, PSs.nox (pss_cons (ps_set (i := 1) nd rfl (Or.inr rfl) (xCallG (E := fun _ _ _ => False) C__law_heap hG (hr.mono (by decide)) (fun pins σ H s e s' I h => by
    obtain ⟨_, _, _, _, _, _, _, _, _, _, _, _, z⟩ := h
    exact z.elim) (pa_cons (pv 0) (pa_cons pe_int pa_nil)))) dR.1), ?_⟩
  obtain ⟨a, ns, rfl, hS, hT, q⟩ := h
  refine ⟨.ref a, rfl, a, ns, 4, rfl, hS, by decide, by decide, fun h g H0 keep hh hg0 ne ok => ?_⟩
  have w0 : Wf (Md.law h g (tabsL K)) (fun _ => none) H0 := ⟨(fun _ _ e => nomatch e), ⟨ok, fun p hp => LamX.TabS.nil (keep _ _ (hT p hp))⟩, fun _ _ => rfl, fun _ _ _ => nofun⟩
  have f0 : Fr K (Md.law h g (tabsL K)) (fun _ => none) H0 [] [none, some .drw, none, none, none, none, none, none, none, none, none, none, none, none, none] [some (.ref a), some (.ref h), none, none, none, none, none, none, none, none, none, none, none, none, none] (fun _ => none) H0 := by
    have key : ∀ (i : Nat) (x : SV), ([none, some .drw, none, none, none, none, none, none, none, none, none, none, none, none, none] : Sl)[i]? = some (some x) → i = 1 ∧ x = .drw := fun i x e => by
      rcases i with _ | _ | i
      · cases e
      · cases e; exact ⟨rfl, rfl⟩
      · exfalso
        have e : (List.replicate 13 (none : Option SV))[i]? = some (some x) := e
        rw [List.getElem?_replicate] at e
        split at e <;> cases e
    refine ⟨w0, w0.tr, rfl, fun i x e => ?_, fun i j xs ys p e => ?_, nofun, List.nodup_nil⟩
    · obtain ⟨rfl, rfl⟩ := key i x e
      exact ⟨_, rfl, h, g, rfl, Md.law_has ne⟩
    · have := (key i _ e).2
      cases this
  exact dR.2 _ Md.law_tb _ _ _ _ _ _ _ f0 _ _ go ⟨fun _ _ _ _ _ _ z => z.elim, fun v d s σ J H _ _ z a => by
    subst z
    rw [da_bl a]
    exact q H, fun _ _ _ _ _ _ z => z.elim, fun _ _ _ _ _ _ z => z.elim⟩ fun _ _ _ _ _ _ _ _ _ z => z.elim
end
end K04

namespace K04
open PySem PySem.Spec
open PyProof.Rows L2 DL DW
local macro_rules | `(tactic| walk_at "dw0") => `(tactic| simp only [DW.startS, DW.AV.sv, List.map_cons, List.map_nil, List.length_cons, List.length_nil, List.replicate_succ, List.replicate_zero, List.cons_append, List.nil_append, Nat.reduceAdd, Nat.reduceSub])
local macro_rules | `(tactic| walk_at "dw") => `(tactic| simp only [DW.wSeq, DW.wNext, DW.wIfS, DW.wRet, DW.wRetN, DW.wBreak, DW.wCont, DW.wSet, DW.wAsg, DW.wNew, DW.wNewL, DW.wNewC, DW.wExpr, DW.wApp, DW.wExt, DW.wExtA, DW.wPop, DW.wAug, DW.wRaise, DW.wVar, DW.wC, DW.wRaw, DW.wOp, DW.wUn, DW.waNil, DW.waCons, DW.wCB, DW.wTup, DW.wLst, DW.wTest, DW.wYes, DW.wAnd, DW.wOr, DW.wNot, DW.wTr, DW.gTr, DW.wAndV, DW.wOrV, DW.wNotV, DW.wIf, DW.rdq, DW.frz, DW.asg, DW.avf, DW.wuNil, DW.wuCons, DW.wCall, DW.wCallK, DW.wNotKD, DW.wIxKD, DW.wCallV, DW.wHear, DW.wgName, DW.wgTup, DW.wgCons, DW.wgNil,
  DW.wParN, DW.wnNil, DW.wnD, DW.wnNew, DW.asgN, DW.gAdd, DW.gSub, DW.gMul, DW.gMod, DW.gDiv, DW.gPow, DW.gLt, DW.gLe, DW.gGt, DW.gGe, DW.gEq, DW.gNe, DW.gEqS, DW.gNeS, DW.pick, List.filterMap_cons, List.filterMap_nil, DW.gInB, DW.gIs, DW.gIsNot, DW.gIx, DW.gNeg, DW.gLen, DW.gToT, DW.gToL, DW.gInt, DW.gAbs, DW.gRepr, DW.gMin2, DW.gMax2, DW.gOrd, DW.gStr, DW.gAddI, DW.gSubI, DW.gIsB, DW.gIsntB, DW.gRep, DW.gSorted, DW.wJoin, DW.gJoin, DW.wIndex, DW.gIndex, DW.wRg1, DW.wRg2, DW.LT.mk, DW.wiSeq, DW.wiRng1, DW.wiRng2, DW.wiRngB, DW.wiEnumX, DW.wiEnum, DW.wipeS, DL.truth, DL.isNo, DW.wIsi, DW.wChain, DW.wSl, DW.gSl, DW.gRev, DW.woNone, DW.woSome, DW.wFor_eq, DW.wLc_eq, DW.wNewLc_eq, DW.one_ord, DW.one_len, DL.oD_len,
  DW.eqv_int, DW.sh_intT, true_and, List.getElem?_cons_zero, List.getElem?_cons_succ, List.set_cons_zero, List.set_cons_succ, List.length_cons, List.length_nil, if_true, if_false, decide_eq_true_eq, Bool.false_eq_true, reduceIte, List.cons_append, List.nil_append, Nat.reduceAdd, Bool.not_true, Bool.not_false])
local macro_rules | `(tactic| walk_at "ds") => `(tactic| repeat ((with_reducible refine DW.Kt_i ?_); (walk_at "dw")))
local macro_rules | `(tactic| walk_at "go") => `(tactic| ((walk_at "dw0"); (walk_at "dw"); (walk_at "ds")))
local macro_rules | `(tactic| walk_at "dt") => `(tactic| ((try walk_at "dw"); (walk_at "ds")))
theorem es_of : ∀ {ws : List Str} {ts : List PyData}, ws.length = ts.length → (∀ (k : Nat) (w : Str) (t : PyData), ws[k]? = some w → ts[k]? = some t → GoodT w t) → ∃ es : List (List Int), es.length = ws.length ∧ ∀ (k : Nat) (w : Str) (t : PyData) (e : List Int), ws[k]? = some w → ts[k]? = some t → es[k]? = some e → Drawn w t e
  | [], [], _, _ => ⟨[], rfl, fun k w t e h => by simp at h⟩
  | w :: ws, t :: ts, hl, h => by
    obtain ⟨e, he⟩ := good_drawn (h 0 w t rfl rfl)
    obtain ⟨es, h1, h2⟩ := es_of (ws := ws) (ts := ts) (by simpa using hl) fun k w t h3 h4 => h (k + 1) w t (by simpa using h3) (by simpa using h4)
    refine ⟨e :: es, by rw [List.length_cons, List.length_cons, h1], fun k w' t' e' g1 g2 g3 => ?_⟩
    cases k with
    | zero => cases g1; cases g2; cases g3; exact he
    | succ k => exact h2 k w' t' e' (by simpa using g1) (by simpa using g2) (by simpa using g3)
def cat (es : List (List Int)) (i : Nat) : List Int := (es.take i).flatten
theorem cat_step {es : List (List Int)} {i : Nat} {e : List Int} (h : es[i]? = some e) : cat es (i + 1) = cat es i ++ e := by
  unfold cat
  rw [List.take_add_one, h]
  simp
theorem cat_all {es : List (List Int)} {i : Nat} {e : List Int} (h : es[i]? = some e) : es.flatten = cat es i ++ (e ++ (es.drop (i + 1)).flatten) := by
  unfold cat
  obtain ⟨hi, he⟩ := List.getElem?_eq_some_iff.mp h
  conv => lhs; rw [← List.take_append_drop i es, List.drop_eq_getElem_cons hi, he]
  rw [List.flatten_append, List.flatten_cons]
theorem cat_len {es : List (List Int)} (h : ∀ e ∈ es, e.length ≤ 250) : es.flatten.length ≤ 250 * es.length := by
  induction es with
  | nil => simp
  | cons e es ih =>
    have h1 := h e (List.mem_cons_self ..)
    have h2 := ih fun x hx => h x (List.mem_cons_of_mem _ hx)
    rw [List.flatten_cons, List.length_append, List.length_cons]
    omega
def endsD (es : List (List Int)) (i : Nat) : List PyData := (List.range i).map fun k => .int ((cat es (k + 1)).length : Nat)
theorem endsD_step (es : List (List Int)) (i : Nat) : endsD es (i + 1) = endsD es i ++ [.int ((cat es (i + 1)).length : Nat)] := by
  unfold endsD
  rw [List.range_succ, List.map_append]
  rfl
theorem endsD_at {es : List (List Int)} {i n : Nat} (h : i < n) : (endsD es n)[i]? = some (.int ((cat es (i + 1)).length : Nat)) := by
  unfold endsD
  rw [List.getElem?_map, List.getElem?_range h]
  rfl
theorem endsD_len (es : List (List Int)) (n : Nat) : (endsD es n).length = n := by unfold endsD; rw [List.length_map, List.length_range]
theorem fit_pair {w : Str} {t : PyData} {e : List Int} {q : Nat} (h : Thing w t e) (hq : q < 2 ^ 20) : Fit (pairD t q) := by
  have p20 : (2 : Nat) ^ 20 = 1048576 := by decide
  have := fz_tup (fzl_cons (thing_fz h) (fzl_cons (fz_int (i := (q : Nat)) (by omega) 3) (fzl_nil 3)))
  exact this.fit (by decide) (by decide)
theorem flatL {l : List PyData} (h : ∀ x ∈ l, FlatD x) : PyData.canLayAll0 l = true ∧ PyData.depthAll l = 0 := by
  induction l with
  | nil => simp [PyData.canLayAll0, PyData.depthAll]
  | cons x l ih =>
    obtain ⟨i1, i2⟩ := ih fun y hy => h y (List.mem_cons_of_mem _ hy)
    obtain ⟨g1, g2⟩ := flat_ok (h x (List.mem_cons_self ..))
    exact ⟨by rw [PyData.canLayAll0, i1, g1]; rfl, by rw [PyData.depthAll, i2, g2]; rfl⟩
theorem thing_lay {w : Str} {t : PyData} {e : List Int} (h : Thing w t e) : PyData.canLay0 t = true ∧ PyData.depth t ≤ 3 := by
  rcases h with ⟨_, ns, rfl, _⟩ | ⟨_, lo, hi, rfl, h1, h2, _⟩ | ⟨_, ps, rfl, _, h, _⟩
  · exact ⟨by rw [PyData.canLay0]; exact ints_shaped ns, by rw [PyData.depth, ints_depth]; decide⟩
  · have := flatL (l := [lo, hi]) fun x hx => by
      simp only [List.mem_cons, List.not_mem_nil, or_false] at hx
      rcases hx with rfl | rfl
      · exact h1.2
      · exact h2.2
    exact ⟨by rw [PyData.canLay0]; exact this.1, by rw [PyData.depth, this.2]; decide⟩
  · have := flats_lay fun p hp => (h p hp).2
    exact ⟨by unfold pairsD; rw [PyData.canLay0]; exact this.1, by unfold pairsD; rw [PyData.depth]; omega⟩
theorem thing_sh {w : Str} {t : PyData} {e : List Int} (h : Thing w t e) : SeqAt.shaped t = true := by
  obtain ⟨h1, h2⟩ := thing_lay h
  unfold SeqAt.shaped
  rw [h1, decide_eq_true (by omega)]
  rfl
theorem thing_eqv {w : Str} {t : PyData} {e : List Int} (h : Thing w t e) : PyData.eqv t t = true := SeqAt.eqv_refl _ (thing_lay h).1
theorem go_law : Go_law := by
  unfold Go_law w_law
  have hz := sizeLine_eq
  have p10 : (2 : Nat) ^ 10 = 1024 := by decide
  have p20 : (2 : Nat) ^ 20 = 1048576 := by decide
  have p9' : (2 : Nat) ^ 9 = 512 := by decide
  walk_at "dw"
  refine ⟨by decide, by decide, fun i acc s => s = [none, some .drw, none, none, none, none, none, none, none, none, none, none, none, none, none] ∧ ∃ ws : List Str, acc = ws.map .str ∧ ws.length = i ∧ ∀ w ∈ ws, Word w, ⟨rfl, [], rfl, rfl, fun _ z => absurd z List.not_mem_nil⟩, ?_, ?_⟩
  · rintro i d acc s2 hd ⟨rfl, ws, rfl, hl, hw⟩
    walk_at "dw"
    refine ⟨by decide, pick_ok (by simp) (by decide), pick_use fun x hx => ?_, fun _ _ z => z⟩
    obtain ⟨w, rfl, hw2⟩ : ∃ w : Str, x = .str w ∧ Word w := by
      simp only [List.mem_cons, List.not_mem_nil, or_false] at hx
      rcases hx with rfl | rfl | rfl | rfl
      · exact ⟨_, rfl, .inl rfl⟩
      · exact ⟨_, rfl, .inr (.inl rfl)⟩
      · exact ⟨_, rfl, .inr (.inr (.inl rfl))⟩
      · exact ⟨_, rfl, .inr (.inr (.inr rfl))⟩
    try walk_at "dw"
    refine ⟨ws ++ [w], by rw [List.map_append]; rfl, by rw [List.length_append, List.length_singleton, hl], fun y hy => ?_⟩
    rcases List.mem_append.mp hy with hy | hy
    · exact hw y hy
    · rw [List.mem_singleton.mp hy]; exact hw2
  rintro acc s2 ⟨rfl, ws, rfl, hwl, hw⟩
  have hwl : ws.length = 4 := hwl
  walk_at "dt"
  refine ⟨by rw [List.length_map]; omega, fun i acc s => s = [none, some .drw, some (.d (.list (ws.map .str))), none, none, none, none, none, none, none, none, none, none, none, none] ∧ acc.length = i ∧ ∀ (k : Nat) (w : Str) (t : PyData), ws[k]? = some w → acc[k]? = some t → GoodT w t, ⟨rfl, rfl, fun k w t _ h => by simp at h⟩, ?_, ?_⟩
  · rintro i d acc s2 hd ⟨rfl, hl, hg⟩
    obtain ⟨w, hwi, rfl⟩ := strs_at hd
    walk_at "dw"
    refine ⟨⟨w, rfl, hw w (List.mem_of_getElem? hwi)⟩, ?_, fun _ _ z => z⟩
    rintro t ⟨w', e, ht⟩
    cases PyData.str.inj (AV.d.inj (List.cons.inj (List.cons.inj e).2).1)
    try walk_at "dw"
    refine ⟨by rw [List.length_append, List.length_singleton, hl], fun k w' t' h1 h2 => ?_⟩
    by_cases hk : k < acc.length
    · exact hg k w' t' h1 (by rw [List.getElem?_append_left hk] at h2; exact h2)
    · rw [List.getElem?_append_right (by omega)] at h2
      have : k - acc.length = 0 := by
        cases q : k - acc.length with
        | zero => rfl
        | succ n => rw [q] at h2; cases h2
      have ek : k = i := by omega
      subst ek
      rw [this] at h2
      cases h2
      rw [hwi] at h1
      cases h1
      exact ht
  rintro ts s2 ⟨rfl, htl, hg⟩
  rw [List.length_map] at htl
  obtain ⟨es, hel, hD⟩ := es_of (by omega) hg
  have hwk : ∀ i, i < 4 → ∃ w t e, ws[i]? = some w ∧ ts[i]? = some t ∧ es[i]? = some e ∧ Drawn w t e ∧ Word w := fun i hi => by
    have h1 := List.getElem?_eq_getElem (l := ws) (i := i) (by omega)
    have h2 := List.getElem?_eq_getElem (l := ts) (i := i) (by omega)
    have h3 := List.getElem?_eq_getElem (l := es) (i := i) (by omega)
    exact ⟨_, _, _, h1, h2, h3, hD i _ _ _ h1 h2 h3, hw _ (List.mem_of_getElem? h1)⟩
  have hek : ∀ e ∈ es, Oct e ∧ e.length ≤ 250 := fun e he => by
    obtain ⟨i, hi, hie⟩ := List.mem_iff_getElem.mp he
    obtain ⟨w, t, e', _, _, h3, h4, _⟩ := hwk i (by omega)
    rw [List.getElem?_eq_getElem hi, hie] at h3
    cases h3
    exact ⟨h4.oc, h4.ln⟩
  have hlen : es.flatten.length ≤ 1000 := by have := cat_len fun e he => (hek e he).2; omega
  have hoct : Oct es.flatten := fun x hx => by
    obtain ⟨e, he, hxe⟩ := List.mem_flatten.mp hx
    exact (hek e he).1 x hxe
  have hcat : ∀ i, i < 4 → (cat es i).length ≤ es.flatten.length ∧ (cat es (i + 1)).length ≤ es.flatten.length := fun i hi => by
    obtain ⟨w, t, e, h1, h2, h3, h4, h5⟩ := hwk i hi
    have := congrArg List.length (cat_all h3)
    rw [List.length_append, List.length_append] at this
    rw [cat_step h3, List.length_append]
    omega
  have hfl : cat es 4 = es.flatten := by unfold cat; rw [List.take_of_length_le (by omega)]
  walk_at "dt"
  refine ⟨by decide, by decide, ?_⟩
  walk_at "dt"
  refine ⟨by decide, fun i s => ∃ v6, s = [none, some .drw, some (.d (.list (ws.map .str))), some (.d (.list ts)), some (.d (.tuple (oD (cat es i)))), some (.own (endsD es i)), v6, none, none, none, none, none, none, none, none] ∧ i ≤ 4, ⟨none, rfl, by decide⟩, ?_, ?_⟩
  · rintro i d s2 hd ⟨v6, rfl, hi⟩
    obtain ⟨rfl, hk⟩ := rngD_at hd
    have hi4 : i < 4 := by omega
    obtain ⟨w, t, e, h1, h2, h3, h4, h5⟩ := hwk i hi4
    obtain ⟨c1, c2⟩ := hcat i hi4
    have e0 : ((0 : Int) + (i : Nat)) = (i : Nat) := by omega
    rw [e0]
    walk_at "dw"
    refine ⟨.str w, DL.atI_nat (by rw [List.getElem?_map, h1]; rfl), t, DL.atI_nat h2, ⟨w, t, e, rfl, h4.th⟩, fun d hd => ?_, fun _ _ z => z⟩
    have hd2 := hd w t e rfl h4.th
    subst hd2
    walk_at "dw"
    rw [oD_app, ← cat_step h3]
    have hle := (hek e (List.mem_of_getElem? h3)).2
    refine ⟨by omega, ?_⟩
    walk_at "dt"
    exact ⟨⟨_, rfl⟩, by rw [endsD_len]; omega, _, by rw [endsD_step], by omega⟩
  · rintro s2 ⟨v6, rfl, hi⟩
    have e4 : (rngD 0 4).length = 4 := rfl
    rw [e4, hfl]
    walk_at "dt"
    refine ⟨by decide, fun i s => ∃ v6, s = [none, some .drw, some (.d (.list (ws.map .str))), some (.d (.list ts)), some (.d (.tuple (oD es.flatten))), some (.own (endsD es 4)), v6, some (.d (.int ((cat es i).length : Nat))), none, none, none, none, none, none, none] ∧ i ≤ 4, ⟨_, rfl, by decide⟩, ?_, ?_⟩
    · rintro i d s2 hd ⟨v6, rfl, hi⟩
      obtain ⟨rfl, hk⟩ := rngD_at hd
      have hi4 : i < 4 := by omega
      obtain ⟨w, t, e, h1, h2, h3, h4, h5⟩ := hwk i hi4
      obtain ⟨c1, c2⟩ := hcat i hi4
      have e0 : ((0 : Int) + (i : Nat)) = (i : Nat) := by omega
      have hrd : rdW w es.flatten (cat es i).length = .ok t (cat es (i + 1)).length := by
        have := h4.rd (cat es i) (es.drop (i + 1)).flatten
        rw [← cat_all h3] at this
        rw [this, cat_step h3, List.length_append]
      have hf := fit_pair (q := (cat es (i + 1)).length) h4.th (by omega)
      have hf2 : Fit (.tuple [t, .int ((cat es (i + 1)).length : Nat)]) := hf
      rw [e0]
      walk_at "dw"
      refine ⟨.str w, DL.atI_nat (by rw [List.getElem?_map, h1]; rfl), ⟨w, es.flatten, _, rfl, h5, hoct, by omega, c1⟩, ?_, ?_⟩
      · rintro d ⟨w', xs', a', v, q, e, hgt, rfl⟩
        obtain ⟨rfl, rfl, rfl⟩ := rd_inj3 e
        rw [hrd] at hgt
        cases hgt
        try walk_at "dw"
        refine ⟨hf.sh, hf.len, by have := hf.dp; omega, t, DL.atI_nat h2, _, DL.atI_nat (endsD_at hi4), by decide, hf2.sh, hf2.len, by have := hf2.dp; omega, ?_⟩
        rw [if_neg (by unfold pairD; simp)]
        walk_at "dt"
        exact ⟨_, DL.atI_nat (endsD_at hi4), _, rfl, by omega⟩
      · rintro c x ⟨w', xs', a', p, e, hgt, rfl, rfl⟩
        obtain ⟨rfl, rfl, rfl⟩ := rd_inj3 e
        rw [hrd] at hgt
        cases hgt
    · rintro s2 ⟨v6, rfl, hi⟩
      walk_at "dt"
      refine ⟨by decide, fun i s => ∃ (v6 v7 v8 v9 v10 v11 v12 v13 : Option SV), s = [none, some .drw, some (.d (.list (ws.map .str))), some (.d (.list ts)), some (.d (.tuple (oD es.flatten))), some (.own (endsD es 4)), v6, v7, v8, v9, v10, v11, v12, v13, none], ⟨_, _, _, _, _, _, _, _, rfl⟩, ?_, ?_⟩
      · rintro i d s2 hd ⟨v6, v7, v8, v9, v10, v11, v12, v13, rfl⟩
        have hx := List.mem_of_getElem? hd
        obtain ⟨w, rfl, hw2⟩ : ∃ w : Str, d = .str w ∧ Word w := by
          simp only [List.mem_cons, List.not_mem_nil, or_false] at hx
          rcases hx with rfl | rfl | rfl | rfl
          · exact ⟨_, rfl, .inl rfl⟩
          · exact ⟨_, rfl, .inr (.inl rfl)⟩
          · exact ⟨_, rfl, .inr (.inr (.inl rfl))⟩
          · exact ⟨_, rfl, .inr (.inr (.inr rfl))⟩
        walk_at "dw"
        refine ⟨⟨w, rfl, hw2⟩, ?_, fun _ _ z => z⟩
        rintro t1 ⟨w', e, g1⟩
        cases PyData.str.inj (AV.d.inj (List.cons.inj (List.cons.inj e).2).1)
        refine ⟨⟨w, rfl, hw2⟩, ?_, fun _ _ z => z⟩
        rintro t2 ⟨w', e, g2⟩
        cases PyData.str.inj (AV.d.inj (List.cons.inj (List.cons.inj e).2).1)
        obtain ⟨e1, D1⟩ := good_drawn g1
        obtain ⟨e2, D2⟩ := good_drawn g2
        have hrd : rdW w e1 0 = .ok t1 e1.length := by
          have := D1.rd [] []
          rw [List.append_nil] at this
          simpa using this
        have hf := fit_pair (q := e1.length) D1.th (by have := D1.ln; omega)
        have hf2 : Fit (.tuple [t1, .int (e1.length : Nat)]) := hf
        walk_at "dt"
        refine ⟨⟨w, t1, e1, rfl, D1.th⟩, fun d hd => ?_, fun _ _ z => z⟩
        have hd2 := hd w t1 e1 rfl D1.th
        subst hd2
        refine ⟨⟨w, t2, e2, rfl, D2.th⟩, fun d hd => ?_, fun _ _ z => z⟩
        have hd2 := hd w t2 e2 rfl D2.th
        subst hd2
        walk_at "dt"
        refine ⟨thing_sh D1.th, thing_sh D2.th, ?_⟩
        refine ite_use (fun hne => ?_) fun hne => ?_
        · have hne2 : t1 ≠ t2 := fun e => by
            subst e
            rw [thing_eqv D1.th] at hne
            cases hne
          rw [cut_to, cut_to]
          refine ⟨sh_tup _, sh_tup _, ?_⟩
          rw [eqv_tup, if_neg (by
            intro h
            exact hne2 (drawn_pre D1 D2 (of_decide_eq_true h)))]
          refine ⟨sh_tup _, sh_tup _, ?_⟩
          rw [eqv_tup, if_neg (by
            intro h
            exact hne2 (drawn_pre D2 D1 (of_decide_eq_true h)).symm)]
          walk_at "dt"
          refine ⟨⟨w, e1, 0, rfl, hw2, D1.oc, by have := D1.ln; omega, Nat.zero_le _⟩, ?_, fun _ _ z => z⟩
          rintro d ⟨w', xs', a', e, rfl⟩
          obtain ⟨rfl, rfl, rfl⟩ := rd_inj3 (a := 0) e
          rw [hrd]
          unfold ownD
          try walk_at "dw"
          refine ⟨hf.sh, hf.len, by have := hf.dp; omega, by decide, hf2.sh, hf2.len, by have := hf2.dp; omega, ?_⟩
          rw [if_neg (by unfold pairD; simp)]
          walk_at "dt"
          refine ⟨⟨e1, rfl, D1.oc, D1.ne, by have := D1.ln; omega⟩, ?_, fun _ _ z => z⟩
          rintro d ⟨ys, rfl, oy, ly⟩
          walk_at "dt"
          refine ⟨⟨w, ys, rfl, hw2, oy, ly⟩, ?_, fun _ _ z => z⟩
          rintro d rfl
          walk_at "dt"
          refine ⟨pick_ok (by intro e; have := congrArg List.length e; rw [List.length_map, hwl] at this; cases this) (by rw [List.length_map]; omega), pick_use fun x hx => ?_, fun _ _ z => z⟩
          obtain ⟨w2, hm2, rfl⟩ := List.mem_map.mp hx
          try walk_at "dw"
          refine ⟨⟨w2, ys, rfl, hw w2 hm2, oy, ly⟩, ?_, fun _ _ z => z⟩
          rintro d rfl
          try walk_at "dw"
          exact ⟨_, _, _, _, _, _, _, _, rfl⟩
        · walk_at "dt"
          refine ⟨⟨w, e1, 0, rfl, hw2, D1.oc, by have := D1.ln; omega, Nat.zero_le _⟩, ?_, fun _ _ z => z⟩
          rintro d ⟨w', xs', a', e, rfl⟩
          obtain ⟨rfl, rfl, rfl⟩ := rd_inj3 (a := 0) e
          rw [hrd]
          unfold ownD
          try walk_at "dw"
          refine ⟨hf.sh, hf.len, by have := hf.dp; omega, by decide, hf2.sh, hf2.len, by have := hf2.dp; omega, ?_⟩
          rw [if_neg (by unfold pairD; simp)]
          walk_at "dt"
          refine ⟨⟨e1, rfl, D1.oc, D1.ne, by have := D1.ln; omega⟩, ?_, fun _ _ z => z⟩
          rintro d ⟨ys, rfl, oy, ly⟩
          walk_at "dt"
          refine ⟨⟨w, ys, rfl, hw2, oy, ly⟩, ?_, fun _ _ z => z⟩
          rintro d rfl
          walk_at "dt"
          refine ⟨pick_ok (by intro e; have := congrArg List.length e; rw [List.length_map, hwl] at this; cases this) (by rw [List.length_map]; omega), pick_use fun x hx => ?_, fun _ _ z => z⟩
          obtain ⟨w2, hm2, rfl⟩ := List.mem_map.mp hx
          try walk_at "dw"
          refine ⟨⟨w2, ys, rfl, hw w2 hm2, oy, ly⟩, ?_, fun _ _ z => z⟩
          rintro d rfl
          try walk_at "dw"
          exact ⟨_, _, _, _, _, _, _, _, rfl⟩
      · rintro s2 ⟨v6, v7, v8, v9, v10, v11, v12, v13, rfl⟩
        walk_at "dt"
        refine ⟨by decide, ⟨[], rfl, by decide, (fun _ z => absurd z List.not_mem_nil)⟩, ?_, fun _ _ z => z⟩
        rintro d ⟨ps, e, rfl⟩
        have hps : [] = ps := pairsD_inj (one_arg_d e)
        subst hps
        have hr : rdW wW (encPairs []) 0 = .ok (pairsD []) (encPairs []).length := by
          have := rdPairs_read (er := true) (ps := []) (A := []) (B := []) (by decide) List.Pairwise.nil (fun _ z => absurd z List.not_mem_nil)
          rw [List.append_nil] at this
          show rdPairs true (encPairs []) 0 = _
          simpa using this
        refine ⟨⟨wW, encPairs [], rfl, .inr (.inr (.inr rfl)), oct_app (figs_oct (by decide)) (fun x hx => absurd hx List.not_mem_nil), by decide⟩, ?_, ?_⟩
        · rintro d ⟨w', xs', e, hgt⟩
          obtain ⟨rfl, rfl⟩ := rd_inj2 (xs := encPairs []) e
          rw [hr] at hgt
          cases hgt
          refine ⟨rfl, by decide +kernel, by decide +kernel, ?_⟩
          rw [if_pos (by decide +kernel)]
          have hr2 : rdRange [0, 0] 0 = .ok (.tuple [.none, .none]) 2 := rfl
          refine ⟨by decide, ⟨[0, 0], 0, rfl, (fun x hx => by
            simp only [List.mem_cons, List.not_mem_nil, or_false] at hx
            omega), by decide, by decide⟩, ?_, ?_⟩
          · rintro d ⟨xs', a', v, q, e, hgt, rfl⟩
            obtain ⟨rfl, rfl⟩ := rd_inj (xs := [0, 0]) (a := 0) e
            rw [hr2] at hgt
            cases hgt
            exact ⟨by decide, by decide, by decide +kernel, by decide +kernel, congrArg PyData.bool (show PyData.eqv (pairD (.tuple [.none, .none]) 2) (.tuple [.tuple [.none, .none], .int 2]) = true by decide +kernel)⟩
          · rintro c x ⟨xs', a', p, e, hgt, _⟩
            obtain ⟨rfl, rfl⟩ := rd_inj (xs := [0, 0]) (a := 0) e
            rw [hr2] at hgt
            cases hgt
        · rintro c x ⟨w', xs', p, e, hgt, _⟩
          obtain ⟨rfl, rfl⟩ := rd_inj2 (xs := encPairs []) e
          rcases hgt with hgt | ⟨v, hgt, hlt⟩
          · rw [hr] at hgt; cases hgt
          · rw [hr] at hgt; cases hgt; exact absurd hlt (Nat.lt_irrefl _)
end K04

namespace K04
open PySem PySem.Spec
open PyProof.Rows L2 DL DW
theorem sc_ok_ini2 : FnScope ["self", "at"] ["self", "at"] (defScope (ini 2)) := ⟨rfl, rfl, rfl, by decide +kernel, rfl, by decide +kernel, by decide +kernel⟩
theorem sc_ok_ini3 : FnScope ["self", "name"] ["self", "name"] (defScope (ini 3)) := ⟨rfl, rfl, rfl, by decide +kernel, rfl, by decide +kernel, by decide +kernel⟩
section
variable {P : Program} {w : World} {K : PySem.W.Frag} {mg : Str → Option Value} {base : Heap} {f C : Addr} {fd : FuncData}
theorem ok_ini2 (F : FunD K "__init__" "InvalidOctets.__init__" (defArgs (ini 2)) (defBody (ini 2)) (defScope (ini 2)) [] [] f fd) (T : OwnE K C exTl "Exception.__new__") : FnOk P w K mg base CX0 1 f fd ["self", "at"] (spIni K C "at") := by
  refine F.ok sc_ok_ini2 (fun vs H Q E h => ?_) (fun cdv A outer s H vs Q E hr h => ?_)
  · obtain ⟨b, v, rfl, _⟩ := h
    rfl
  refine ⟨_, PSs.nox (pss_one (ps_put (nw := "Exception.__new__") exTl_pass rfl (pv 0) (pv 1))), ?_⟩
  have e : start ["self", "at"] vs = vs.map some := by
    obtain ⟨b, v, rfl, _⟩ := h
    rfl
  rw [e]
  exact ini_read T h
theorem ok_ini3 (F : FunD K "__init__" "NoName.__init__" (defArgs (ini 3)) (defBody (ini 3)) (defScope (ini 3)) [] [] f fd) (T : OwnE K C lkTl "LookupError.__new__") : FnOk P w K mg base CX0 1 f fd ["self", "name"] (spIni K C "name") := by
  refine F.ok sc_ok_ini3 (fun vs H Q E h => ?_) (fun cdv A outer s H vs Q E hr h => ?_)
  · obtain ⟨b, v, rfl, _⟩ := h
    rfl
  refine ⟨_, PSs.nox (pss_one (ps_put (nw := "LookupError.__new__") lkTl_pass rfl (pv 0) (pv 1))), ?_⟩
  have e : start ["self", "name"] vs = vs.map some := by
    obtain ⟨b, v, rfl, _⟩ := h
    rfl
  rw [e]
  exact ini_read T h
end
/-! ### the head -/
theorem fun_kbP {K : PySem.W.Frag} {x qual : Str} {params : Arguments} {body : List Stmt} {scope : Scope} {f : Addr} {fd : FuncData} {ps : List Str} (F : FunD K x qual params body scope [] [] f fd) (n : Nat) (ks : List Str) (π : List Nat)
    (h : ∀ (kV doc pm : Value) (an : Option Addr) (cdv ct : Value) (us ws : List Value), us.length = n → ws.length = ks.length → bindArgs (PySem.W.fnOf x qual params body scope .none kV doc pm an cdv ct) ⟨us, ks.zip ws⟩ = pure (ps.zip (pick π (us ++ ws)))) :
    KBn K fd ps n ks (fun us ws => pick π (us ++ ws)) (fun vs zs => pick π (vs ++ zs)) := by
  obtain ⟨_, _, _, k1, d1, m1, a1, c1, t1, _, e, _, _, dfl, _⟩ := F.ex
  subst e
  match dfl with
  | .inl ⟨_, none_⟩ => subst none_; exact ⟨fun s us ws _ l1 l2 => .of_eq (h k1 d1 m1 a1 c1 t1 us ws l1 l2), fun r1 r2 => vals_pick (r1.append r2) π⟩
  | .inr ⟨some_, _⟩ => exact absurd rfl some_
theorem excB_ok {K : PySem.W.Frag} {D : Addr} (c : excB K D = true) : L2.ExcC K D := by
  obtain ⟨h1, c⟩ := He.ba c
  obtain ⟨h2, c⟩ := He.ba c
  obtain ⟨h3, c⟩ := He.ba c
  obtain ⟨h4, c⟩ := He.ba c
  obtain ⟨h5, c⟩ := He.ba c
  obtain ⟨h6, c⟩ := He.ba c
  obtain ⟨h7, h8⟩ := He.ba c
  exact ⟨He.eqO_ok h1, He.eqO_ok h2, of_decide_eq_true h3, h4, He.eqO_ok h5, He.eqO_ok h6, of_decide_eq_true h7, of_decide_eq_true h8⟩
section
variable {P : Program} {w : World} {K : PySem.W.Frag} {h base : Heap} {mg : Str → Option Value}
theorem bd {x q : Str} {params : Arguments} {body : List Stmt} {scope : Scope} {f : Addr} {fd : FuncData} {ps : List Str} (F : FunD K x q params body scope [] [] f fd)
    (hh : ∀ (kV doc pm : Value) (an : Option Addr) (cdv ct : Value) (us : List Value), us.length = ps.length → bindArgs (PySem.W.fnOf x q params body scope .none kV doc pm an cdv ct) ⟨us, []⟩ = pure (ps.zip us)) : Binds K fd ps [] := F.bindsN hh
def adK (K : PySem.W.Frag) (z : Str) : Addr := bif z == wN then He.ga K "get_numbers" else bif z == wR then He.ga K "get_range" else bif z == wE then He.ga K "get_entries" else He.ga K "get_writes"
theorem facts {f : Addr} (X : K.In h) (G : h.Ns mainGlobals mg) (hfa : mg ("law" : Str) = some (.ref f)) (c : He.SaysD fa fn K) (kd : ∃ es n, KDict K w (He.ga K "READERS") es n) (ce : ex K = true) :
    ∃ fd : FuncData, (∀ (s : Shared) (v : Value), BindsTo s fd ⟨[v], []⟩ [("_law_script", v)]) ∧ ∀ base : Heap, K.In base → base.Ns mainGlobals mg → (∀ p ∈ tf.map (He.cT K), LamX.TabB base mg p.1 p.2) → FnG P w K mg base CX0 15 f fd ["_law_script"] (spLaw K) := by
  obtain ⟨es, en, KD⟩ := kd
  obtain ⟨ce1, ce⟩ := He.ba ce
  obtain ⟨ce2, ce⟩ := He.ba ce
  obtain ⟨ce3, ce4⟩ := He.ba ce
  obtain ⟨r1, r⟩ := He.ba ce4
  obtain ⟨r2, r⟩ := He.ba r
  obtain ⟨r3, r4⟩ := He.ba r
  have gl : ∀ (i : Nat) (x : Str), fa[i]? = some (.glo x) → mg x = some (.ref (He.ga K x)) := fun i x e => He.glo_ok X G (c.fact i e)
  have fr : ∀ (i : Nat) (x : Str), fa[i]? = some (.free x) → mg x = none := fun i x e => He.free_ok X G (c.fact i e)
  have T : Fx mg := ⟨He.int_ok X G (c.fact 0 (f := .int "MOST_NUMBER_OCTETS" 9) rfl), He.int_ok X G (c.fact 1 (f := .int "MOST_KEY_SIGNS" 16) rfl), He.int_ok X G (c.fact 2 (f := .int "MOST_TEXT_SIGNS" 32) rfl), He.int_ok X G (c.fact 3 (f := .int "GREATEST_VALUE" 1000000000000000000) rfl), He.str_ok X G (c.fact 4 (f := .str "KEY_SIGNS" c_KEY_SIGNS) rfl), He.str_ok X G (c.fact 5 (f := .str "TEXT_SIGNS" c_TEXT_SIGNS) rfl), fr 6 _ rfl, fr 7 _ rfl, fr 8 _ rfl, fr 9 _ rfl, fr 10 _ rfl, fr 11 _ rfl, fr 12 _ rfl, fr 13 _ rfl, fr 14 _ rfl, fr 15 _ rfl, fr 16 _ rfl, fr 17 _ rfl⟩
  obtain ⟨fd0, F0⟩ := c.def_ 0 rfl
  obtain ⟨fd1, F1⟩ := c.def_ 1 rfl
  obtain ⟨fd2, F2⟩ := c.def_ 2 rfl
  obtain ⟨fd3, F3⟩ := c.def_ 3 rfl
  obtain ⟨fd4, F4⟩ := c.def_ 4 rfl
  obtain ⟨fd5, F5⟩ := c.def_ 5 rfl
  obtain ⟨fd6, F6⟩ := c.def_ 6 rfl
  obtain ⟨fd7, F7⟩ := c.def_ 7 rfl
  obtain ⟨fd8, F8⟩ := c.def_ 8 rfl
  obtain ⟨fd9, F9⟩ := c.def_ 9 rfl
  obtain ⟨fd10, F10⟩ := c.def_ 10 rfl
  obtain ⟨fd11, F11⟩ := c.def_ 11 rfl
  obtain ⟨fd12, F12⟩ := c.def_ 12 rfl
  obtain ⟨fd13, F13⟩ := c.def_ 13 rfl
  obtain ⟨fd14, F14⟩ := c.def_ 14 rfl
  obtain ⟨fd15, F15⟩ := c.def_ 15 rfl
  obtain ⟨fd16, F16⟩ := c.def_ 16 rfl
  obtain ⟨fd17, F17⟩ := c.def_ 17 rfl
  obtain ⟨fd18, F18⟩ := c.def_ 18 rfl
  obtain ⟨fd19, F19⟩ := c.def_ 19 rfl
  obtain ⟨fd20, F20⟩ := c.def_ 20 rfl
  obtain ⟨fd21, F21⟩ := c.def_ 21 rfl
  obtain ⟨fd22, F22⟩ := c.def_ 22 rfl
  obtain ⟨fd23, F23⟩ := c.def_ 23 rfl
  obtain ⟨fd24, F24⟩ := c.def_ 24 rfl
  obtain ⟨fd25, F25⟩ := c.def_ 25 rfl
  obtain ⟨fd26, F26⟩ := c.def_ 26 rfl
  obtain ⟨fd27, F27⟩ := c.def_ 27 rfl
  obtain ⟨fd28, F28⟩ := c.def_ 28 rfl
  obtain ⟨fd29, F29⟩ := c.def_ 29 rfl
  obtain ⟨fd30, F30⟩ := c.def_ 30 rfl
  obtain ⟨fd31, F31⟩ := c.def_ 31 rfl
  obtain ⟨fd32, F32⟩ := c.def_ 32 rfl
  obtain ⟨fd33, F33⟩ := c.def_ 33 rfl
  obtain ⟨fd34, F34⟩ := c.def_ 34 rfl
  obtain ⟨fd35, F35⟩ := c.def_ 35 rfl
  obtain ⟨fd36, F36⟩ := c.def_ 36 rfl
  obtain ⟨fd37, F37⟩ := c.def_ 37 rfl
  obtain ⟨fd38, F38⟩ := c.def_ 38 rfl
  obtain ⟨fd39, F39⟩ := c.def_ 39 rfl
  obtain ⟨fd40, F40⟩ := c.def_ 40 rfl
  obtain ⟨fd41, F41⟩ := c.def_ 41 rfl
  obtain ⟨fd42, F42⟩ := c.def_ 42 rfl
  obtain ⟨fd43, F43⟩ := c.def_ 43 rfl
  obtain ⟨fd44, F44⟩ := c.def_ 44 rfl
  obtain ⟨fd45, F45⟩ := c.def_ 45 rfl
  obtain ⟨fd46, F46⟩ := c.def_ 46 rfl
  obtain ⟨fd47, F47⟩ := c.def_ 47 rfl
  obtain ⟨fd48, F48⟩ := c.def_ 48 rfl
  have e := hfa.symm.trans (gl 64 "law" rfl)
  cases e
  have b := FunD.bindsA (ps := ["_law_script"]) F48 fun _ _ _ _ _ _ us hl => match us, hl with | [_], _ => rfl
  refine ⟨fd48, fun s v => b s [v] rfl, fun base XB GB TB => ?_⟩
  have b0 : Binds K fd0 ["self", "at"] [] := bd F0 fun _ _ _ _ _ _ us hl => match us, hl with | [_, _], _ => rfl
  have b1 : Binds K fd1 ["self", "name"] [] := bd F1 fun _ _ _ _ _ _ us hl => match us, hl with | [_, _], _ => rfl
  have R_InvalidOctets : Er P w K mg base "InvalidOctets" ((erL K).cl "InvalidOctets") "at" := er_of ce1 X G (ok_ini2 F0 (erB_own ce1)) b0
  have R_NoName : Er P w K mg base "NoName" ((erL K).cl "NoName") "name" := erK_of ce2 X G (ok_ini3 F1 (erK_own ce2)) b1
  obtain ⟨k1, k2⟩ := He.ba ce3
  have kn : Kin K (He.ga K "StoreError") := ⟨He.exm_ok (c.fact 67 (f := .exm "InvalidOctets" "InvalidOctets" true) rfl), excB_ok k1, of_decide_eq_true k2⟩
  have mR := gl 66 "READERS" rfl
  have mS := gl 65 "StoreError" rfl
  have mh := gl 60 "_law_heard" rfl
  have bh : Binds K fd44 ["_law_work"] [] := bd F44 fun _ _ _ _ _ _ us hl => match us, hl with | [_], _ => rfl
  have hdK : ∀ z f, (z, f) ∈ tabW (adK K) → PySem.W.nsIn K (He.ga K "READERS") z = some (some (.ref f)) := fun z f hm => by
    simp only [tabW, List.mem_cons, List.not_mem_nil, or_false, Prod.mk.injEq] at hm
    rcases hm with ⟨rfl, rfl⟩ | ⟨rfl, rfl⟩ | ⟨rfl, rfl⟩ | ⟨rfl, rfl⟩
    · exact He.eqO_ok r1
    · exact He.eqO_ok r2
    · exact He.eqO_ok r3
    · exact He.eqO_ok r4
  have m1 : He.cT K ("_law_any_right", none) ∈ tf.map (He.cT K) := List.mem_cons_self ..
  have u1 : ∀ p ∈ tabsL K, p.1 = (He.cT K ("_law_any_right", none)).2 → p.2 = qLam "_law_any_right" := fun p hp e => by
    rw [List.mem_singleton.mp hp]
  have O_codes_of := ok_codes_of (P := P) (w := w) (mg := mg) (base := base) go_codes_of F2 T 
  have B_codes_of : Binds K fd2 ["text"] [] := bd F2 fun _ _ _ _ _ _ us hl => match us, hl with | [_], _ => rfl
  have C_codes_of : Ca5 P w K mg base (L2.CX P w) 1 "codes_of" ["text"] (spU K (erL K) anyM pre_codes_of post_codes_of exc_codes_of) := ⟨_, fd2, O_codes_of, gl 18 _ rfl, F2.kp, B_codes_of⟩
  have O_sign_at := ok_sign_at (P := P) (w := w) (mg := mg) (base := base) go_sign_at F3 T 
  have B_sign_at : Binds K fd3 ["octets", "at", "signs"] [] := bd F3 fun _ _ _ _ _ _ us hl => match us, hl with | [_, _, _], _ => rfl
  have C_sign_at : Ca5 P w K mg base (L2.CX P w) 1 "sign_at" ["octets", "at", "signs"] (spU K (erL K) anyM pre_sign_at post_sign_at exc_sign_at) := ⟨_, fd3, O_sign_at, gl 19 _ rfl, F3.kp, B_sign_at⟩
  have O_put_number := ok_put_number (P := P) (w := w) (mg := mg) (base := base) go_put_number F4 T 
  have B_put_number : Binds K fd4 ["number"] [] := bd F4 fun _ _ _ _ _ _ us hl => match us, hl with | [_], _ => rfl
  have C_put_number : Ca5 P w K mg base (L2.CX P w) 1 "put_number" ["number"] (spU K (erL K) anyM pre_put_number post_put_number exc_put_number) := ⟨_, fd4, O_put_number, gl 20 _ rfl, F4.kp, B_put_number⟩
  have O_get_number := ok_get_number (P := P) (w := w) (mg := mg) (base := base) go_get_number F5 T R_InvalidOctets
  have B_get_number : Binds K fd5 ["octets", "at"] [] := bd F5 fun _ _ _ _ _ _ us hl => match us, hl with | [_, _], _ => rfl
  have C_get_number : Ca5 P w K mg base (L2.CX P w) 3 "get_number" ["octets", "at"] (spU K (erL K) anyM pre_get_number post_get_number exc_get_number) := ⟨_, fd5, O_get_number, gl 21 _ rfl, F5.kp, B_get_number⟩
  have O_put_integer := ok_put_integer (P := P) (w := w) (mg := mg) (base := base) go_put_integer F6 T C_put_number
  have B_put_integer : Binds K fd6 ["integer"] [] := bd F6 fun _ _ _ _ _ _ us hl => match us, hl with | [_], _ => rfl
  have C_put_integer : Ca5 P w K mg base (L2.CX P w) 2 "put_integer" ["integer"] (spU K (erL K) anyM pre_put_integer post_put_integer exc_put_integer) := ⟨_, fd6, O_put_integer, gl 22 _ rfl, F6.kp, B_put_integer⟩
  have O_get_integer := ok_get_integer (P := P) (w := w) (mg := mg) (base := base) go_get_integer F7 T C_get_number
  have B_get_integer : Binds K fd7 ["octets", "at"] [] := bd F7 fun _ _ _ _ _ _ us hl => match us, hl with | [_, _], _ => rfl
  have C_get_integer : Ca5 P w K mg base (L2.CX P w) 4 "get_integer" ["octets", "at"] (spU K (erL K) anyM pre_get_integer post_get_integer exc_get_integer) := ⟨_, fd7, O_get_integer, gl 23 _ rfl, F7.kp, B_get_integer⟩
  have O_put_numbers := ok_put_numbers (P := P) (w := w) (mg := mg) (base := base) go_put_numbers F8 T C_put_number
  have B_put_numbers : Binds K fd8 ["numbers"] [] := bd F8 fun _ _ _ _ _ _ us hl => match us, hl with | [_], _ => rfl
  have C_put_numbers : Ca5 P w K mg base (L2.CX P w) 2 "put_numbers" ["numbers"] (spU K (erL K) anyM pre_put_numbers post_put_numbers exc_put_numbers) := ⟨_, fd8, O_put_numbers, gl 24 _ rfl, F8.kp, B_put_numbers⟩
  have C_put_numbers_K0_numbers : CaN P w K mg base (L2.CX P w) 2 "put_numbers" ["numbers"] 0 ["numbers"] [0] (spU K (erL K) anyM pre_put_numbers post_put_numbers exc_put_numbers) := ⟨_, fd8, O_put_numbers, gl 24 _ rfl, F8.kp, fun_kbP F8 0 ["numbers"] [0] fun _ _ _ _ _ _ us ws h1 h2 => match us, ws, h1, h2 with | [], [_], _, _ => rfl⟩
  have O_get_numbers := ok_get_numbers (P := P) (w := w) (mg := mg) (base := base) go_get_numbers F9 T C_get_number
  have B_get_numbers : Binds K fd9 ["octets", "at"] [] := bd F9 fun _ _ _ _ _ _ us hl => match us, hl with | [_, _], _ => rfl
  have C_get_numbers : Ca5 P w K mg base (L2.CX P w) 4 "get_numbers" ["octets", "at"] (spU K (erL K) anyM pre_get_numbers post_get_numbers exc_get_numbers) := ⟨_, fd9, O_get_numbers, gl 25 _ rfl, F9.kp, B_get_numbers⟩
  have C_get_numbers_K0_at_octets : CaN P w K mg base (L2.CX P w) 4 "get_numbers" ["octets", "at"] 0 ["at", "octets"] [1, 0] (spU K (erL K) anyM pre_get_numbers post_get_numbers exc_get_numbers) := ⟨_, fd9, O_get_numbers, gl 25 _ rfl, F9.kp, fun_kbP F9 0 ["at", "octets"] [1, 0] fun _ _ _ _ _ _ us ws h1 h2 => match us, ws, h1, h2 with | [], [_, _], _, _ => rfl⟩
  have O_put_key := ok_put_key (P := P) (w := w) (mg := mg) (base := base) go_put_key F10 T C_codes_of
  have B_put_key : Binds K fd10 ["key"] [] := bd F10 fun _ _ _ _ _ _ us hl => match us, hl with | [_], _ => rfl
  have C_put_key : Ca5 P w K mg base (L2.CX P w) 2 "put_key" ["key"] (spU K (erL K) anyM pre_put_key post_put_key exc_put_key) := ⟨_, fd10, O_put_key, gl 26 _ rfl, F10.kp, B_put_key⟩
  have O_get_key := ok_get_key (P := P) (w := w) (mg := mg) (base := base) go_get_key F11 T C_sign_at R_InvalidOctets
  have B_get_key : Binds K fd11 ["octets", "at"] [] := bd F11 fun _ _ _ _ _ _ us hl => match us, hl with | [_, _], _ => rfl
  have C_get_key : Ca5 P w K mg base (L2.CX P w) 3 "get_key" ["octets", "at"] (spU K (erL K) anyM pre_get_key post_get_key exc_get_key) := ⟨_, fd11, O_get_key, gl 27 _ rfl, F11.kp, B_get_key⟩
  have O_put_text := ok_put_text (P := P) (w := w) (mg := mg) (base := base) go_put_text F12 T C_put_number C_codes_of
  have B_put_text : Binds K fd12 ["text"] [] := bd F12 fun _ _ _ _ _ _ us hl => match us, hl with | [_], _ => rfl
  have C_put_text : Ca5 P w K mg base (L2.CX P w) 2 "put_text" ["text"] (spU K (erL K) anyM pre_put_text post_put_text exc_put_text) := ⟨_, fd12, O_put_text, gl 28 _ rfl, F12.kp, B_put_text⟩
  have O_get_text := ok_get_text (P := P) (w := w) (mg := mg) (base := base) go_get_text F13 T C_get_number C_sign_at R_InvalidOctets
  have B_get_text : Binds K fd13 ["octets", "at"] [] := bd F13 fun _ _ _ _ _ _ us hl => match us, hl with | [_, _], _ => rfl
  have C_get_text : Ca5 P w K mg base (L2.CX P w) 4 "get_text" ["octets", "at"] (spU K (erL K) anyM pre_get_text post_get_text exc_get_text) := ⟨_, fd13, O_get_text, gl 29 _ rfl, F13.kp, B_get_text⟩
  have O_put_value := ok_put_value (P := P) (w := w) (mg := mg) (base := base) go_put_value F14 T C_put_text C_put_integer
  have B_put_value : Binds K fd14 ["value"] [] := bd F14 fun _ _ _ _ _ _ us hl => match us, hl with | [_], _ => rfl
  have C_put_value : Ca5 P w K mg base (L2.CX P w) 3 "put_value" ["value"] (spU K (erL K) anyM pre_put_value post_put_value exc_put_value) := ⟨_, fd14, O_put_value, gl 30 _ rfl, F14.kp, B_put_value⟩
  have O_get_value := ok_get_value (P := P) (w := w) (mg := mg) (base := base) go_get_value F15 T C_get_text C_get_integer R_InvalidOctets
  have B_get_value : Binds K fd15 ["octets", "at"] [] := bd F15 fun _ _ _ _ _ _ us hl => match us, hl with | [_, _], _ => rfl
  have C_get_value : Ca5 P w K mg base (L2.CX P w) 5 "get_value" ["octets", "at"] (spU K (erL K) anyM pre_get_value post_get_value exc_get_value) := ⟨_, fd15, O_get_value, gl 31 _ rfl, F15.kp, B_get_value⟩
  have O_put_writes := ok_put_writes (P := P) (w := w) (mg := mg) (base := base) go_put_writes F16 T C_put_number C_put_key C_put_value
  have B_put_writes : Binds K fd16 ["pairs"] [] := bd F16 fun _ _ _ _ _ _ us hl => match us, hl with | [_], _ => rfl
  have C_put_writes : Ca5 P w K mg base (L2.CX P w) 4 "put_writes" ["pairs"] (spU K (erL K) anyM pre_put_writes post_put_writes exc_put_writes) := ⟨_, fd16, O_put_writes, gl 32 _ rfl, F16.kp, B_put_writes⟩
  have C_put_writes_K0_pairs : CaN P w K mg base (L2.CX P w) 4 "put_writes" ["pairs"] 0 ["pairs"] [0] (spU K (erL K) anyM pre_put_writes post_put_writes exc_put_writes) := ⟨_, fd16, O_put_writes, gl 32 _ rfl, F16.kp, fun_kbP F16 0 ["pairs"] [0] fun _ _ _ _ _ _ us ws h1 h2 => match us, ws, h1, h2 with | [], [_], _, _ => rfl⟩
  have O_get_pairs := ok_get_pairs (P := P) (w := w) (mg := mg) (base := base) go_get_pairs F17 T C_get_number C_get_key C_get_value R_InvalidOctets
  have B_get_pairs : Binds K fd17 ["octets", "at", "may_erase"] [] := bd F17 fun _ _ _ _ _ _ us hl => match us, hl with | [_, _, _], _ => rfl
  have C_get_pairs : Ca5 P w K mg base (L2.CX P w) 6 "get_pairs" ["octets", "at", "may_erase"] (spU K (erL K) anyM pre_get_pairs post_get_pairs exc_get_pairs) := ⟨_, fd17, O_get_pairs, gl 33 _ rfl, F17.kp, B_get_pairs⟩
  have O_get_writes := ok_get_writes (P := P) (w := w) (mg := mg) (base := base) go_get_writes F18 T C_get_pairs
  have B_get_writes : Binds K fd18 ["octets", "at"] [] := bd F18 fun _ _ _ _ _ _ us hl => match us, hl with | [_, _], _ => rfl
  have C_get_writes : Ca5 P w K mg base (L2.CX P w) 7 "get_writes" ["octets", "at"] (spU K (erL K) anyM pre_get_writes post_get_writes exc_get_writes) := ⟨_, fd18, O_get_writes, gl 34 _ rfl, F18.kp, B_get_writes⟩
  have C_get_writes_K0_at_octets : CaN P w K mg base (L2.CX P w) 7 "get_writes" ["octets", "at"] 0 ["at", "octets"] [1, 0] (spU K (erL K) anyM pre_get_writes post_get_writes exc_get_writes) := ⟨_, fd18, O_get_writes, gl 34 _ rfl, F18.kp, fun_kbP F18 0 ["at", "octets"] [1, 0] fun _ _ _ _ _ _ us ws h1 h2 => match us, ws, h1, h2 with | [], [_, _], _, _ => rfl⟩
  have O_put_entries := ok_put_entries (P := P) (w := w) (mg := mg) (base := base) go_put_entries F19 T C_put_writes
  have B_put_entries : Binds K fd19 ["entries"] [] := bd F19 fun _ _ _ _ _ _ us hl => match us, hl with | [_], _ => rfl
  have C_put_entries : Ca5 P w K mg base (L2.CX P w) 5 "put_entries" ["entries"] (spU K (erL K) anyM pre_put_entries post_put_entries exc_put_entries) := ⟨_, fd19, O_put_entries, gl 35 _ rfl, F19.kp, B_put_entries⟩
  have O_get_entries := ok_get_entries (P := P) (w := w) (mg := mg) (base := base) go_get_entries F20 T C_get_pairs
  have B_get_entries : Binds K fd20 ["octets", "at"] [] := bd F20 fun _ _ _ _ _ _ us hl => match us, hl with | [_, _], _ => rfl
  have C_get_entries : Ca5 P w K mg base (L2.CX P w) 7 "get_entries" ["octets", "at"] (spU K (erL K) anyM pre_get_entries post_get_entries exc_get_entries) := ⟨_, fd20, O_get_entries, gl 36 _ rfl, F20.kp, B_get_entries⟩
  have C_get_entries_K0_at_octets : CaN P w K mg base (L2.CX P w) 7 "get_entries" ["octets", "at"] 0 ["at", "octets"] [1, 0] (spU K (erL K) anyM pre_get_entries post_get_entries exc_get_entries) := ⟨_, fd20, O_get_entries, gl 36 _ rfl, F20.kp, fun_kbP F20 0 ["at", "octets"] [1, 0] fun _ _ _ _ _ _ us ws h1 h2 => match us, ws, h1, h2 with | [], [_, _], _, _ => rfl⟩
  have O_put_end := ok_put_end (P := P) (w := w) (mg := mg) (base := base) go_put_end F21 T C_put_key
  have B_put_end : Binds K fd21 ["end"] [] := bd F21 fun _ _ _ _ _ _ us hl => match us, hl with | [_], _ => rfl
  have C_put_end : Ca5 P w K mg base (L2.CX P w) 3 "put_end" ["end"] (spU K (erL K) anyM pre_put_end post_put_end exc_put_end) := ⟨_, fd21, O_put_end, gl 37 _ rfl, F21.kp, B_put_end⟩
  have O_get_end := ok_get_end (P := P) (w := w) (mg := mg) (base := base) go_get_end F22 T C_get_key R_InvalidOctets
  have B_get_end : Binds K fd22 ["octets", "at"] [] := bd F22 fun _ _ _ _ _ _ us hl => match us, hl with | [_, _], _ => rfl
  have C_get_end : Ca5 P w K mg base (L2.CX P w) 4 "get_end" ["octets", "at"] (spU K (erL K) anyM pre_get_end post_get_end exc_get_end) := ⟨_, fd22, O_get_end, gl 38 _ rfl, F22.kp, B_get_end⟩
  have O_put_range := ok_put_range (P := P) (w := w) (mg := mg) (base := base) go_put_range F23 T C_put_end
  have B_put_range : Binds K fd23 ["bounds"] [] := bd F23 fun _ _ _ _ _ _ us hl => match us, hl with | [_], _ => rfl
  have C_put_range : Ca5 P w K mg base (L2.CX P w) 4 "put_range" ["bounds"] (spU K (erL K) anyM pre_put_range post_put_range exc_put_range) := ⟨_, fd23, O_put_range, gl 39 _ rfl, F23.kp, B_put_range⟩
  have C_put_range_K0_bounds : CaN P w K mg base (L2.CX P w) 4 "put_range" ["bounds"] 0 ["bounds"] [0] (spU K (erL K) anyM pre_put_range post_put_range exc_put_range) := ⟨_, fd23, O_put_range, gl 39 _ rfl, F23.kp, fun_kbP F23 0 ["bounds"] [0] fun _ _ _ _ _ _ us ws h1 h2 => match us, ws, h1, h2 with | [], [_], _, _ => rfl⟩
  have O_get_range := ok_get_range (P := P) (w := w) (mg := mg) (base := base) go_get_range F24 T C_get_end
  have B_get_range : Binds K fd24 ["octets", "at"] [] := bd F24 fun _ _ _ _ _ _ us hl => match us, hl with | [_, _], _ => rfl
  have C_get_range : Ca5 P w K mg base (L2.CX P w) 5 "get_range" ["octets", "at"] (spU K (erL K) anyM pre_get_range post_get_range exc_get_range) := ⟨_, fd24, O_get_range, gl 40 _ rfl, F24.kp, B_get_range⟩
  have C_get_range_K0_at_octets : CaN P w K mg base (L2.CX P w) 5 "get_range" ["octets", "at"] 0 ["at", "octets"] [1, 0] (spU K (erL K) anyM pre_get_range post_get_range exc_get_range) := ⟨_, fd24, O_get_range, gl 40 _ rfl, F24.kp, fun_kbP F24 0 ["at", "octets"] [1, 0] fun _ _ _ _ _ _ us ws h1 h2 => match us, ws, h1, h2 with | [], [_, _], _, _ => rfl⟩
  have AV : ∀ f sp, SpR K (erL K) anyM (RdW (adK K)) f sp → ∃ (fd : FuncData) (ps : List Str), FnG P w K mg base (L2.CX P w) 8 f fd ps sp ∧ PySem.W.keepIn K (.ref f) = true ∧ Binds K fd ps [] := by
    rintro f sp ⟨pre, post, exc, ⟨z, hz, rfl, rfl, rfl, rfl⟩, rfl⟩
    rcases hz with rfl | rfl | rfl | rfl
    · exact ⟨fd9, _, FnG.more O_get_numbers (by decide), F9.kp, B_get_numbers⟩
    · exact ⟨fd24, _, FnG.more O_get_range (by decide), F24.kp, B_get_range⟩
    · exact ⟨fd20, _, FnG.more O_get_entries (by decide), F20.kp, B_get_entries⟩
    · exact ⟨fd18, _, FnG.more O_get_writes (by decide), F18.kp, B_get_writes⟩
  have O_read_whole := ok_read_whole (P := P) (w := w) (mg := mg) (base := base) (go_read_whole (adK K)) F25 T mR KD hdK AV R_InvalidOctets R_NoName
  have B_read_whole : Binds K fd25 ["word", "octets"] [] := bd F25 fun _ _ _ _ _ _ us hl => match us, hl with | [_, _], _ => rfl
  have C_read_whole : Ca5 P w K mg base (L2.CX P w) 9 "read_whole" ["word", "octets"] (spU K (erL K) anyM pre_read_whole post_read_whole exc_read_whole) := ⟨_, fd25, O_read_whole, gl 41 _ rfl, F25.kp, B_read_whole⟩
  have C_read_whole_K0_word_octets : CaN P w K mg base (L2.CX P w) 9 "read_whole" ["word", "octets"] 0 ["word", "octets"] [0, 1] (spU K (erL K) anyM pre_read_whole post_read_whole exc_read_whole) := ⟨_, fd25, O_read_whole, gl 41 _ rfl, F25.kp, fun_kbP F25 0 ["word", "octets"] [0, 1] fun _ _ _ _ _ _ us ws h1 h2 => match us, ws, h1, h2 with | [], [_, _], _, _ => rfl⟩
  have O__law_heap := ok__law_heap (P := P) (w := w) (mg := mg) (base := base) F26 T
  have B__law_heap : Binds K fd26 ["_law_script", "_law_base"] [] := bd F26 fun _ _ _ _ _ _ us hl => match us, hl with | [_, _], _ => rfl
  have C__law_heap : CaG P w K mg base (L2.CX P w) 1 "_law_heap" ["_law_script", "_law_base"] (spHeap K) := ⟨_, fd26, O__law_heap, gl 42 _ rfl, F26.kp, B__law_heap⟩
  have O__law_draw := ok__law_draw (P := P) (w := w) (mg := mg) (base := base) F27 T 
  have B__law_draw : Binds K fd27 ["_law_heap_here", "_law_many"] [] := bd F27 fun _ _ _ _ _ _ us hl => match us, hl with | [_, _], _ => rfl
  have C__law_draw : Ca5 P w K mg base (L2.CX P w) 1 "_law_draw" ["_law_heap_here", "_law_many"] (spU K (erL K) anyM pre__law_draw post__law_draw exc__law_draw) := ⟨_, fd27, O__law_draw, gl 43 _ rfl, F27.kp, B__law_draw⟩
  have O__law_pick := ok__law_pick (P := P) (w := w) (mg := mg) (base := base) go__law_pick F28 T C__law_draw
  have B__law_pick : Binds K fd28 ["_law_heap_here", "_law_some"] [] := bd F28 fun _ _ _ _ _ _ us hl => match us, hl with | [_, _], _ => rfl
  have C__law_pick : Ca5 P w K mg base (L2.CX P w) 2 "_law_pick" ["_law_heap_here", "_law_some"] (spU K (erL K) anyM pre__law_pick post__law_pick exc__law_pick) := ⟨_, fd28, O__law_pick, gl 44 _ rfl, F28.kp, B__law_pick⟩
  have O__law_keys := ok__law_keys (P := P) (w := w) (mg := mg) (base := base) go__law_keys F29 T C__law_pick C__law_draw
  have B__law_keys : Binds K fd29 ["_law_heap_here", "_law_many"] [] := bd F29 fun _ _ _ _ _ _ us hl => match us, hl with | [_, _], _ => rfl
  have C__law_keys : Ca5 P w K mg base (L2.CX P w) 3 "_law_keys" ["_law_heap_here", "_law_many"] (spU K (erL K) anyM pre__law_keys post__law_keys exc__law_keys) := ⟨_, fd29, O__law_keys, gl 45 _ rfl, F29.kp, B__law_keys⟩
  have O__law_text := ok__law_text (P := P) (w := w) (mg := mg) (base := base) go__law_text F30 T C__law_pick
  have B__law_text : Binds K fd30 ["_law_heap_here"] [] := bd F30 fun _ _ _ _ _ _ us hl => match us, hl with | [_], _ => rfl
  have C__law_text : Ca5 P w K mg base (L2.CX P w) 3 "_law_text" ["_law_heap_here"] (spU K (erL K) anyM pre__law_text post__law_text exc__law_text) := ⟨_, fd30, O__law_text, gl 46 _ rfl, F30.kp, B__law_text⟩
  have O__law_integer := ok__law_integer (P := P) (w := w) (mg := mg) (base := base) go__law_integer F31 T C__law_pick C__law_draw
  have B__law_integer : Binds K fd31 ["_law_heap_here"] [] := bd F31 fun _ _ _ _ _ _ us hl => match us, hl with | [_], _ => rfl
  have C__law_integer : Ca5 P w K mg base (L2.CX P w) 3 "_law_integer" ["_law_heap_here"] (spU K (erL K) anyM pre__law_integer post__law_integer exc__law_integer) := ⟨_, fd31, O__law_integer, gl 47 _ rfl, F31.kp, B__law_integer⟩
  have O__law_value := ok__law_value (P := P) (w := w) (mg := mg) (base := base) go__law_value F32 T C__law_draw C__law_text C__law_integer
  have B__law_value : Binds K fd32 ["_law_heap_here"] [] := bd F32 fun _ _ _ _ _ _ us hl => match us, hl with | [_], _ => rfl
  have C__law_value : Ca5 P w K mg base (L2.CX P w) 4 "_law_value" ["_law_heap_here"] (spU K (erL K) anyM pre__law_value post__law_value exc__law_value) := ⟨_, fd32, O__law_value, gl 48 _ rfl, F32.kp, B__law_value⟩
  have O__law_number_at := ok__law_number_at (P := P) (w := w) (mg := mg) (base := base) go__law_number_at F33 T 
  have B__law_number_at : Binds K fd33 ["_law_octets", "_law_at"] [] := bd F33 fun _ _ _ _ _ _ us hl => match us, hl with | [_, _], _ => rfl
  have C__law_number_at : Ca5 P w K mg base (L2.CX P w) 1 "_law_number_at" ["_law_octets", "_law_at"] (spU K (erL K) anyM pre__law_number_at post__law_number_at exc__law_number_at) := ⟨_, fd33, O__law_number_at, gl 49 _ rfl, F33.kp, B__law_number_at⟩
  have O__law_key_at := ok__law_key_at (P := P) (w := w) (mg := mg) (base := base) go__law_key_at F34 T 
  have B__law_key_at : Binds K fd34 ["_law_octets", "_law_at"] [] := bd F34 fun _ _ _ _ _ _ us hl => match us, hl with | [_, _], _ => rfl
  have C__law_key_at : Ca5 P w K mg base (L2.CX P w) 1 "_law_key_at" ["_law_octets", "_law_at"] (spU K (erL K) anyM pre__law_key_at post__law_key_at exc__law_key_at) := ⟨_, fd34, O__law_key_at, gl 50 _ rfl, F34.kp, B__law_key_at⟩
  have O__law_text_at := ok__law_text_at (P := P) (w := w) (mg := mg) (base := base) go__law_text_at F35 T C__law_number_at
  have B__law_text_at : Binds K fd35 ["_law_octets", "_law_at"] [] := bd F35 fun _ _ _ _ _ _ us hl => match us, hl with | [_, _], _ => rfl
  have C__law_text_at : Ca5 P w K mg base (L2.CX P w) 2 "_law_text_at" ["_law_octets", "_law_at"] (spU K (erL K) anyM pre__law_text_at post__law_text_at exc__law_text_at) := ⟨_, fd35, O__law_text_at, gl 51 _ rfl, F35.kp, B__law_text_at⟩
  have O__law_value_at := ok__law_value_at (P := P) (w := w) (mg := mg) (base := base) go__law_value_at F36 T C__law_text_at C__law_number_at
  have B__law_value_at : Binds K fd36 ["_law_octets", "_law_at"] [] := bd F36 fun _ _ _ _ _ _ us hl => match us, hl with | [_, _], _ => rfl
  have C__law_value_at : Ca5 P w K mg base (L2.CX P w) 3 "_law_value_at" ["_law_octets", "_law_at"] (spU K (erL K) anyM pre__law_value_at post__law_value_at exc__law_value_at) := ⟨_, fd36, O__law_value_at, gl 52 _ rfl, F36.kp, B__law_value_at⟩
  have O__law_pairs_at := ok__law_pairs_at (P := P) (w := w) (mg := mg) (base := base) go__law_pairs_at F37 T C__law_number_at C__law_key_at C__law_value_at
  have B__law_pairs_at : Binds K fd37 ["_law_octets", "_law_at", "_law_whole"] [] := bd F37 fun _ _ _ _ _ _ us hl => match us, hl with | [_, _, _], _ => rfl
  have C__law_pairs_at : Ca5 P w K mg base (L2.CX P w) 4 "_law_pairs_at" ["_law_octets", "_law_at", "_law_whole"] (spU K (erL K) anyM pre__law_pairs_at post__law_pairs_at exc__law_pairs_at) := ⟨_, fd37, O__law_pairs_at, gl 53 _ rfl, F37.kp, B__law_pairs_at⟩
  have O__law_numbers_at := ok__law_numbers_at (P := P) (w := w) (mg := mg) (base := base) go__law_numbers_at F38 T C__law_number_at
  have B__law_numbers_at : Binds K fd38 ["_law_octets", "_law_at"] [] := bd F38 fun _ _ _ _ _ _ us hl => match us, hl with | [_, _], _ => rfl
  have C__law_numbers_at : Ca5 P w K mg base (L2.CX P w) 2 "_law_numbers_at" ["_law_octets", "_law_at"] (spU K (erL K) anyM pre__law_numbers_at post__law_numbers_at exc__law_numbers_at) := ⟨_, fd38, O__law_numbers_at, gl 54 _ rfl, F38.kp, B__law_numbers_at⟩
  have O__law_range_at := ok__law_range_at (P := P) (w := w) (mg := mg) (base := base) go__law_range_at F39 T C__law_key_at
  have B__law_range_at : Binds K fd39 ["_law_octets", "_law_at"] [] := bd F39 fun _ _ _ _ _ _ us hl => match us, hl with | [_, _], _ => rfl
  have C__law_range_at : Ca5 P w K mg base (L2.CX P w) 2 "_law_range_at" ["_law_octets", "_law_at"] (spU K (erL K) anyM pre__law_range_at post__law_range_at exc__law_range_at) := ⟨_, fd39, O__law_range_at, gl 55 _ rfl, F39.kp, B__law_range_at⟩
  have O__law_read := ok__law_read (P := P) (w := w) (mg := mg) (base := base) go__law_read F40 T C__law_numbers_at C__law_range_at C__law_pairs_at
  have B__law_read : Binds K fd40 ["_law_word", "_law_octets", "_law_at"] [] := bd F40 fun _ _ _ _ _ _ us hl => match us, hl with | [_, _, _], _ => rfl
  have C__law_read : Ca5 P w K mg base (L2.CX P w) 5 "_law_read" ["_law_word", "_law_octets", "_law_at"] (spU K (erL K) anyM pre__law_read post__law_read exc__law_read) := ⟨_, fd40, O__law_read, gl 56 _ rfl, F40.kp, B__law_read⟩
  have O__law_thing := ok__law_thing (P := P) (w := w) (mg := mg) (base := base) go__law_thing F41 T C__law_keys C__law_draw C__law_pick C__law_value
  have B__law_thing : Binds K fd41 ["_law_heap_here", "_law_word"] [] := bd F41 fun _ _ _ _ _ _ us hl => match us, hl with | [_, _], _ => rfl
  have C__law_thing : Ca5 P w K mg base (L2.CX P w) 5 "_law_thing" ["_law_heap_here", "_law_word"] (spU K (erL K) anyM pre__law_thing post__law_thing exc__law_thing) := ⟨_, fd41, O__law_thing, gl 57 _ rfl, F41.kp, B__law_thing⟩
  have O__law_two := ok__law_two (P := P) (w := w) (mg := mg) (base := base) go__law_two F47 T 
  have B__law_two : Binds K fd47 ["_law_one", "_law_other"] [] := bd F47 fun _ _ _ _ _ _ us hl => match us, hl with | [_, _], _ => rfl
  have C__law_two : Ca5 P w K mg base (L2.CX P w) 1 "_law_two" ["_law_one", "_law_other"] (spU K (erL K) anyM pre__law_two post__law_two exc__law_two) := ⟨_, fd47, O__law_two, gl 63 _ rfl, F47.kp, B__law_two⟩
  have O__law_put := ok__law_put (P := P) (w := w) (mg := mg) (base := base) go__law_put F42 T C__law_two C_put_range C_put_entries C_put_writes C_put_numbers_K0_numbers C_put_range_K0_bounds
  have B__law_put : Binds K fd42 ["_law_word", "_law_thing_here"] [] := bd F42 fun _ _ _ _ _ _ us hl => match us, hl with | [_, _], _ => rfl
  have C__law_put : Ca5 P w K mg base (L2.CX P w) 6 "_law_put" ["_law_word", "_law_thing_here"] (spU K (erL K) anyM pre__law_put post__law_put exc__law_put) := ⟨_, fd42, O__law_put, gl 58 _ rfl, F42.kp, B__law_put⟩
  have O__law_got := ok__law_got (P := P) (w := w) (mg := mg) (base := base) go__law_got F43 T C__law_two C_get_numbers C_get_range C_get_entries C_get_writes C_get_numbers_K0_at_octets C_get_entries_K0_at_octets C_get_writes_K0_at_octets
  have B__law_got : Binds K fd43 ["_law_word", "_law_octets", "_law_at"] [] := bd F43 fun _ _ _ _ _ _ us hl => match us, hl with | [_, _, _], _ => rfl
  have C__law_got : Ca5 P w K mg base (L2.CX P w) 8 "_law_got" ["_law_word", "_law_octets", "_law_at"] (spU K (erL K) anyM pre__law_got post__law_got exc__law_got) := ⟨_, fd43, O__law_got, gl 59 _ rfl, F43.kp, B__law_got⟩
  have O__law_bent := ok__law_bent (P := P) (w := w) (mg := mg) (base := base) go__law_bent F45 T C__law_pick C__law_draw
  have B__law_bent : Binds K fd45 ["_law_heap_here", "_law_octets"] [] := bd F45 fun _ _ _ _ _ _ us hl => match us, hl with | [_, _], _ => rfl
  have C__law_bent : Ca5 P w K mg base (L2.CX P w) 3 "_law_bent" ["_law_heap_here", "_law_octets"] (spU K (erL K) anyM pre__law_bent post__law_bent exc__law_bent) := ⟨_, fd45, O__law_bent, gl 61 _ rfl, F45.kp, B__law_bent⟩
  have O__law_any_right := ok__law_any_right (P := P) (w := w) (mg := mg) (base := base) (TT := tabsL K) go__law_any_right F46 T C__law_pick C__law_draw C__law_read C__law_got C__law_put C_read_whole F44 mh bh R_InvalidOctets mS kn (TB _ m1) (List.mem_cons_self ..) u1
  have B__law_any_right : Binds K fd46 ["_law_heap_here", "_law_word", "_law_octets"] [] := bd F46 fun _ _ _ _ _ _ us hl => match us, hl with | [_, _, _], _ => rfl
  have C__law_any_right : Ca5 P w K mg base (L2.CX P w) 13 "_law_any_right" ["_law_heap_here", "_law_word", "_law_octets"] (spU K (erL K) (fun M => HasTb M (tabsL K)) pre__law_any_right post__law_any_right exc__law_any_right) := ⟨_, fd46, O__law_any_right, gl 62 _ rfl, F46.kp, B__law_any_right⟩
  exact ok_law go_law F48 T C__law_heap C__law_pick C__law_thing C__law_put C__law_got C__law_read C__law_bent C__law_any_right C_read_whole_K0_word_octets C_put_writes_K0_pairs C_get_range_K0_at_octets
end
end K04
open PySem PySem.W PySem.Calls PyProof.Rows
theorem PySem.Challenge.cw_spelledways_k04_whole_maps_writes_ranges_holds : PySem.Challenge.rw_spelledways_k04_whole_maps_writes_ranges.Holds := by
  w_on; o_law
  refine HandSHeadRun.head_any (r := OpenLaw.row PySem.Challenge.rw_spelledways_k04_whole_maps_writes_ranges) (q := view (OpenLaw.row PySem.Challenge.rw_spelledways_k04_whole_maps_writes_ranges).prog [59]) (H := K04.hk) (ob := K04.ob) (M := 8000) (loose := K04.loose) (d := HandSHeadRun.topDef (OpenLaw.row PySem.Challenge.rw_spelledways_k04_whole_maps_writes_ranges).prog 59) (kwd := []) K04.ob_eq
    (by kernel_rfl) (fun s => by kernel_rfl) K04.run (by kernel_rfl) (by kernel_rfl) (by kernel_rfl) (by rfl) (by first | assumption | decide +kernel) (by decide +kernel) ⟨rfl, rfl, rfl, rfl, rfl, by decide +kernel⟩ ?hw ?hc
  case hw => w_witness2
  case hc =>
    refine DL.walk_gT (l := PySem.Challenge.rw_spelledways_k04_whole_maps_writes_ranges) (n := 63) (k := 15) (x := "_law_script") (CX := L2.CX0) rfl (by decide) (by kernel_rfl) ⟨rfl, by decide, by decide⟩ ?F (fun _ _ _ _ z => z)
    intro w mg fa h Y G hmg0
    obtain ⟨K, KX, c⟩ := Y
    have hmg : mg ("law" : PySem.Str) = some (.ref fa) := by
      have e : (HandSHeadRun.topDef (OpenLaw.row PySem.Challenge.rw_spelledways_k04_whole_maps_writes_ranges).prog 59).name = ("law" : PySem.Str) := by kernel_rfl
      rw [← e]
      exact hmg0
    obtain ⟨fd, hb, hF⟩ := K04.facts (P := (PySem.Challenge.rw_spelledways_k04_whole_maps_writes_ranges).prog) (w := w) KX G hmg c.t.d (c.t.tab 0) c.more
    have each : ∀ {Q : Addr × Addr → Prop}, (∀ p ∈ K04.tf, Q (He.cT K p)) → ∀ p ∈ K04.tf.map (He.cT K), Q p := fun {Q} hQ p hp => by
      obtain ⟨d, hd, e⟩ := List.mem_map.mp hp
      rw [← e]
      exact hQ d hd
    refine ⟨K, fd, K04.spLaw K, K04.tf.map (He.cT K), KX, each c.empty, each c.out, each c.hd, hb, fun H a ns hl hO hS => ⟨a, ns, rfl, hS, fun p hp => ?_, fun _ => rfl⟩, hF⟩
    rw [List.mem_singleton.mp hp]
    exact hO.1 _ (List.mem_map.mpr ⟨_, List.mem_cons_self .., rfl⟩)

