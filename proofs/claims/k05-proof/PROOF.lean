import PyProof.Rows.All
import Wide.All
import OpenK.AllK
import Wide.FinOn
import HandS.ForMost
import HandS.Flow
import HandS.Deep
import HandS.Wide
import KE.KDictKeyed
import KE.KDictLaw
import HandS.TupAny
import PyProof.P3In
import HandS.Style
import KE.SortData
import KE.KDictSum
import KE.KDictCopyH
import HandS.TupSets
import HandS.TupLen
import HandS.WordsDict
import HandS.RaiseMore
import HandS.NoneIn
import HandS.Comp
import HandS.Conv
import HandS.DictComp
import HandS.Codes
import HandS.GenList
import HandS.AnyAll
import PyProof.TupleOfGen
import KE.GoesEnum
import HandS.EndTab
import KE.Datum
import PySem.Challenge.RW_boneways_k05_codes_and_simple_cells
set_option Elab.async false
set_option linter.all false
/-! ## RA -/
section
set_option maxRecDepth 100000
/-! Data, store, and how both stand in the heap. -/
namespace RF
open PySem L2

/-- a value of the small machine: tuples by value, lists and dicts by their place in the store -/
inductive D where
  | non | bl (b : Bool) | int (i : Int) | str (x : Str) | tup (ds : List D) | loc (n : Nat)

/-- an object of the store -/
inductive O where
  | lst (ds : List D)
  | fro (ds : List D)
  | dct (kvs : List (D × D))

abbrev Store := List O
abbrev Slots := List (Option D)

/-- what stays the same: the written part, the tables of the defs, the program, the world -/
structure Ct where
  K : PySem.W.Frag
  T : List Addr
  P : Program
  w : World
abbrev ctOf (X : Cx) (T : List Addr) : Ct := ⟨X.K, T, X.prog, X.w⟩

/-- a tuple that stays: tracked by itself, or the module's own -/
def TupAt (K : PySem.W.Frag) (H : Hp) (a : Addr) (xs : List V) : Prop :=
  H a = some (.tup xs) ∨ (∃ (o : Obj) (its : Array Value) (n : Nat), K.lookup a = some o ∧ o.cls = .type "tuple" ∧ o.data = .seq its n ∧ its.size ≤ sizeLine ∧ Vals xs its.toList)

mutual
inductive Rep (K : PySem.W.Frag) (φ : List Addr) (H : Hp) : V → D → Prop
  | non : Rep K φ H .non .non
  | bl (b : Bool) : Rep K φ H (.bl b) (.bl b)
  | int (i : Int) : Rep K φ H (.int i) (.int i)
  | str (x : Str) : Rep K φ H (.str x) (.str x)
  | tup {a : Addr} {xs : List V} {ds : List D} : TupAt K H a xs → Reps K φ H xs ds → Rep K φ H (.ref a) (.tup ds)
  | loc {a : Addr} {n : Nat} : φ[n]? = some a → Rep K φ H (.ref a) (.loc n)
inductive Reps (K : PySem.W.Frag) (φ : List Addr) (H : Hp) : List V → List D → Prop
  | nil : Reps K φ H [] []
  | cons {x : V} {d : D} {xs : List V} {ds : List D} : Rep K φ H x d → Reps K φ H xs ds → Reps K φ H (x :: xs) (d :: ds)
end

/-- what stays from one heap to a later one: tuples -/
def Keep (H H' : Hp) : Prop := ∀ b xs, H b = some (.tup xs) → H' b = some (.tup xs)
theorem Keep.refl (H : Hp) : Keep H H := fun _ _ h => h
theorem Keep.trans {H H1 H2 : Hp} (a : Keep H H1) (b : Keep H1 H2) : Keep H H2 := fun c xs h => b c xs (a c xs h)
theorem Keep.new {H : Hp} {p : Addr} {o : HO} (hp : H p = none) : Keep H (upd H p o) := fun b xs h => by
  rw [upd_ne (ne_of_none h hp)]; exact h
theorem Keep.store {H : Hp} {p : Addr} {o u : HO} (hp : H p = some u) (hu : ∀ xs, u ≠ .tup xs) : Keep H (upd H p o) := fun b xs h => by
  have : b ≠ p := fun e => by rw [e, hp] at h; exact hu xs (Option.some.inj h)
  rw [upd_ne this]; exact h

theorem TupAt.keep {K : PySem.W.Frag} {H H' : Hp} {a : Addr} {xs : List V} (t : TupAt K H a xs) (k : Keep H H') : TupAt K H' a xs := by
  rcases t with t | t
  · exact .inl (k _ _ t)
  · exact .inr t
theorem TupAt.sq {K : PySem.W.Frag} {H : Hp} {a : Addr} {xs : List V} (t : TupAt K H a xs) : SqT K H a xs := by
  rcases t with t | t
  · exact .inl (.inl t)
  · exact .inr t

theorem pre_get {α : Type} {l l' : List α} {n : Nat} {a : α} (h : l <+: l') (e : l[n]? = some a) : l'[n]? = some a := by
  obtain ⟨m, rfl⟩ := h
  rw [List.getElem?_append_left]
  · exact e
  · exact (List.getElem?_eq_some_iff.mp e).1

mutual
theorem Rep.mono {K : PySem.W.Frag} {φ φ' : List Addr} {H H' : Hp} (hφ : φ <+: φ') (hk : Keep H H') : ∀ {v : V} {d : D}, Rep K φ H v d → Rep K φ' H' v d
  | _, _, .non => .non
  | _, _, .bl b => .bl b
  | _, _, .int i => .int i
  | _, _, .str x => .str x
  | _, _, .tup t r => .tup (t.keep hk) (Reps.mono hφ hk r)
  | _, _, .loc e => .loc (pre_get hφ e)
theorem Reps.mono {K : PySem.W.Frag} {φ φ' : List Addr} {H H' : Hp} (hφ : φ <+: φ') (hk : Keep H H') : ∀ {xs : List V} {ds : List D}, Reps K φ H xs ds → Reps K φ' H' xs ds
  | _, _, .nil => .nil
  | _, _, .cons r t => .cons (Rep.mono hφ hk r) (Reps.mono hφ hk t)
end

section
variable {K : PySem.W.Frag} {φ φ' : List Addr} {H H' : Hp}
theorem Reps.length : ∀ {xs : List V} {ds : List D}, Reps K φ H xs ds → xs.length = ds.length
  | _, _, .nil => rfl
  | _, _, .cons _ t => by simp [Reps.length t]
theorem Reps.get : ∀ {xs : List V} {ds : List D} {i : Nat} {x : V}, Reps K φ H xs ds → xs[i]? = some x → ∃ d, ds[i]? = some d ∧ Rep K φ H x d
  | _, _, _, _, .nil, e => by simp at e
  | _, _, 0, _, .cons r _, e => by simp at e; subst e; exact ⟨_, rfl, r⟩
  | _, _, i + 1, _, .cons _ t, e => by
    obtain ⟨d, h1, h2⟩ := Reps.get (i := i) t (by simpa using e)
    exact ⟨d, by simpa using h1, h2⟩
theorem Reps.get' : ∀ {xs : List V} {ds : List D} {i : Nat} {d : D}, Reps K φ H xs ds → ds[i]? = some d → ∃ x, xs[i]? = some x ∧ Rep K φ H x d
  | _, _, _, _, .nil, e => by simp at e
  | _, _, 0, _, .cons r _, e => by simp at e; subst e; exact ⟨_, rfl, r⟩
  | _, _, i + 1, _, .cons _ t, e => by
    obtain ⟨d, h1, h2⟩ := Reps.get' (i := i) t (by simpa using e)
    exact ⟨d, by simpa using h1, h2⟩
theorem Reps.append : ∀ {xs ys : List V} {ds es : List D}, Reps K φ H xs ds → Reps K φ H ys es → Reps K φ H (xs ++ ys) (ds ++ es)
  | _, _, _, _, .nil, s => s
  | _, _, _, _, .cons r t, s => .cons r (Reps.append t s)
theorem Reps.set {x : V} {d : D} (r : Rep K φ H x d) : ∀ {xs : List V} {ds : List D} (i : Nat), Reps K φ H xs ds → Reps K φ H (xs.set i x) (ds.set i d)
  | _, _, _, .nil => .nil
  | _, _, 0, .cons _ t => .cons r t
  | _, _, i + 1, .cons q t => .cons q (Reps.set r i t)
theorem Reps.take : ∀ {xs : List V} {ds : List D} (n : Nat), Reps K φ H xs ds → Reps K φ H (xs.take n) (ds.take n)
  | _, _, 0, _ => .nil
  | _, _, _ + 1, .nil => .nil
  | _, _, n + 1, .cons r t => .cons r (Reps.take n t)
theorem Reps.drop : ∀ {xs : List V} {ds : List D} (n : Nat), Reps K φ H xs ds → Reps K φ H (xs.drop n) (ds.drop n)
  | _, _, 0, r => r
  | _, _, _ + 1, .nil => .nil
  | _, _, n + 1, .cons _ t => Reps.drop n t
theorem Reps.eraseIdx : ∀ {xs : List V} {ds : List D} (n : Nat), Reps K φ H xs ds → Reps K φ H (xs.eraseIdx n) (ds.eraseIdx n)
  | _, _, _, .nil => .nil
  | _, _, 0, .cons _ t => t
  | _, _, n + 1, .cons r t => .cons r (Reps.eraseIdx n t)
theorem Reps.reverse : ∀ {xs : List V} {ds : List D}, Reps K φ H xs ds → Reps K φ H xs.reverse ds.reverse
  | _, _, .nil => .nil
  | _, _, .cons r t => by
    rw [List.reverse_cons, List.reverse_cons]
    exact (Reps.reverse t).append (.cons r .nil)
theorem Rep.int_inv {v : V} {i : Int} (r : Rep K φ H v (.int i)) : v = .int i := by cases r; rfl
theorem Rep.bl_inv {v : V} {b : Bool} (r : Rep K φ H v (.bl b)) : v = .bl b := by cases r; rfl
theorem Rep.str_inv {v : V} {x : Str} (r : Rep K φ H v (.str x)) : v = .str x := by cases r; rfl
theorem Rep.non_inv {v : V} (r : Rep K φ H v .non) : v = .non := by cases r; rfl
theorem Rep.tup_inv {v : V} {ds : List D} (r : Rep K φ H v (.tup ds)) : ∃ a xs, v = .ref a ∧ TupAt K H a xs ∧ Reps K φ H xs ds := by
  cases r with
  | tup t rs => exact ⟨_, _, rfl, t, rs⟩
theorem Rep.loc_inv {v : V} {n : Nat} (r : Rep K φ H v (.loc n)) : ∃ a, v = .ref a ∧ φ[n]? = some a := by
  cases r with
  | loc e => exact ⟨_, rfl, e⟩
end

/-! ### keys of dicts -/
def dKey : D → Option Key
  | .int i => some (.inl i)
  | .str x => some (.inr x)
  | _ => none
mutual
def nkD : D → Option NestedKey
  | .non => some .none
  | .bl b => some (.num (if b then 1 else 0))
  | .int i => some (.num i)
  | .str x => some (.text x)
  | .tup ds => match nksD ds with
    | some ks => some (.tup ks)
    | none => none
  | .loc _ => none
def nksD : List D → Option (List NestedKey)
  | [] => some []
  | d :: ds => match nkD d, nksD ds with
    | some k, some ks => some (k :: ks)
    | _, _ => none
end
/-- a key that is a tuple -/
def tkD : D → Option NestedKey
  | .tup ds => match nksD ds with
    | some ks => if NestedKey.depth (.tup ks) ≤ 8 then some (.tup ks) else none
    | none => none
  | _ => none

/-- entries of a dict -/
inductive Ents {κ : Type} (kf : D → Option κ) (K : PySem.W.Frag) (φ : List Addr) (H : Hp) : List (κ × V) → List (D × D) → Prop
  | nil : Ents kf K φ H [] []
  | cons {k : κ} {v : V} {a b : D} {ks : List (κ × V)} {ds : List (D × D)} : kf a = some k → Rep K φ H v b → Ents kf K φ H ks ds → Ents kf K φ H ((k, v) :: ks) ((a, b) :: ds)
theorem Ents.mono {κ : Type} {kf : D → Option κ} {K : PySem.W.Frag} {φ φ' : List Addr} {H H' : Hp} (hφ : φ <+: φ') (hk : Keep H H') : ∀ {ks : List (κ × V)} {ds : List (D × D)}, Ents kf K φ H ks ds → Ents kf K φ' H' ks ds
  | _, _, .nil => .nil
  | _, _, .cons e r t => .cons e (r.mono hφ hk) (Ents.mono hφ hk t)

/-- entries of a dict whose keys are tuples -/
inductive EntsT (K : PySem.W.Frag) (φ : List Addr) (H : Hp) : List (NestedKey × Addr × Value) → List (D × D) → Prop
  | nil : EntsT K φ H [] []
  | cons {k : NestedKey} {b : Addr} {u : Value} {v : V} {da db : D} {xs : List (NestedKey × Addr × Value)} {ds : List (D × D)} : tkD da = some k → Rep K φ H (.ref b) da → RelV v u → Rep K φ H v db → EntsT K φ H xs ds → EntsT K φ H ((k, b, u) :: xs) ((da, db) :: ds)
theorem EntsT.mono {K : PySem.W.Frag} {φ φ' : List Addr} {H H' : Hp} (hφ : φ <+: φ') (hk : Keep H H') : ∀ {xs : List (NestedKey × Addr × Value)} {ds : List (D × D)}, EntsT K φ H xs ds → EntsT K φ' H' xs ds
  | _, _, .nil => .nil
  | _, _, .cons e r rv r2 t => .cons e (r.mono hφ hk) rv (r2.mono hφ hk) (EntsT.mono hφ hk t)
/-- the dict at a, by its entries alone -/
def KD (P : Program) (w : World) (a : Addr) (xs : List (NestedKey × Addr × Value)) : HO := .ext fun h => (a == sysModules) = false ∧ xs.length ≤ sizeLine ∧ (xs.map (·.1)).Nodup ∧
  ∃ o es ep, h.get? a = some o ∧ o.ExactDict ∧ o.data = .dict es ep ∧ es.toList = xs.map (entryOfKey (nestedKind P w))

/-- a list of ints of the written part -/
def KF (K : PySem.W.Frag) (a : Addr) (ds : List D) : Prop :=
  ∃ is : List Int, ds = is.map D.int ∧ ∃ (o : Obj) (its : Array Value) (n : Nat), K.lookup a = some o ∧ o.cls = .type "list" ∧ o.dict = none ∧ o.data = .seq its n ∧ its.size ≤ sizeLine ∧ Vals (is.map V.int) its.toList
/-- an object of the store at its address -/
def RepO (c : Ct) (φ : List Addr) (H : Hp) (a : Addr) : O → Prop
  | .lst ds => ∃ xs, H a = some (.lst xs) ∧ Reps c.K φ H xs ds
  | .fro ds => (∃ xs, Rd H a (.lst xs) ∧ Reps c.K φ H xs ds) ∨ KF c.K a ds
  | .dct kvs => (∃ ks, H a = some (.dK ks) ∧ Ents dKey c.K φ H ks kvs) ∨ (∃ xs, H a = some (KD c.P c.w a xs) ∧ EntsT c.K φ H xs kvs)
def notFro : O → Bool
  | .fro _ => false
  | _ => true
def IsKF (K : PySem.W.Frag) (a : Addr) (o : O) : Prop := ∃ ds, o = .fro ds ∧ KF K a ds

/-- a code object's table -/
def TabG (H : Hp) (P : Addr) : Prop := ∃ ps : Array Value, H P = some (.tbl ps) ∧ TriplesOk ps.toList

/-- the store stands in the heap; φ: the addresses by place; T: the tables of the defs -/
structure Rel (c : Ct) (φ : List Addr) (S : Store) (H : Hp) : Prop where
  len : φ.length = List.length S
  nd : ∀ (n m : Nat) (a : Addr) (o o' : O), n ≠ m → φ[n]? = some a → φ[m]? = some a → (S : List O)[n]? = some o → (S : List O)[m]? = some o' → IsKF c.K a o ∨ IsKF c.K a o'
  obj : ∀ (n : Nat) (a : Addr) (o : O), φ[n]? = some a → (S : List O)[n]? = some o → RepO c φ H a o
  tab : ∀ P ∈ c.T, TabG H P

/-- the slots -/
def SlotRel (K : PySem.W.Frag) (φ : List Addr) (H : Hp) (σD : Slots) (σ : St) : Prop :=
  List.length σD = List.length σ ∧ ∀ (i : Nat) (d : D), (σD : List (Option D))[i]? = some (some d) → ∃ v : V, (σ : List (Option V))[i]? = some (some v) ∧ Rep K φ H v d

theorem SlotRel.mono {K : PySem.W.Frag} {φ φ' : List Addr} {H H' : Hp} {σD : Slots} {σ : St} (h : SlotRel K φ H σD σ) (hφ : φ <+: φ') (hk : Keep H H') : SlotRel K φ' H' σD σ :=
  ⟨h.1, fun i d e => let ⟨v, e', r⟩ := h.2 i d e; ⟨v, e', r.mono hφ hk⟩⟩
theorem SlotRel.set {K : PySem.W.Frag} {φ : List Addr} {H : Hp} {σD : Slots} {σ : St} {v : V} {d : D} (h : SlotRel K φ H σD σ) (i : Nat) (r : Rep K φ H v d) : SlotRel K φ H (List.set σD i (some d)) (List.set σ i (some v)) := by
  refine ⟨by rw [List.length_set, List.length_set]; exact h.1, fun j e q => ?_⟩
  by_cases hj : j = i
  · subst hj
    have hlt : j < List.length σD := by
      have := (List.getElem?_eq_some_iff.mp q).1
      rw [List.length_set] at this
      exact this
    rw [List.getElem?_set_self hlt] at q
    cases q
    exact ⟨v, List.getElem?_set_self (h.1 ▸ hlt), r⟩
  · rw [List.getElem?_set_ne (Ne.symm hj)] at q
    obtain ⟨w, e', r'⟩ := h.2 j e q
    exact ⟨w, by rw [List.getElem?_set_ne (Ne.symm hj)]; exact e', r'⟩

/-- what an evaluation leaves -/
def Post (c : Ct) (φ : List Addr) (H : Hp) (S' : Store) (P : List Addr → Prop) (H' : Hp) : Prop :=
  ∃ φ', φ <+: φ' ∧ Keep H H' ∧ Rel c φ' S' H' ∧ P φ'

section
variable {c : Ct} {φ φ' : List Addr} {S : Store} {H H' : Hp} {a p : Addr} {o : O}
theorem Rd.same {u : HO} (h : Rd H a u) (ha : H' a = H a) : Rd H' a u := by
  rcases h with h | ⟨w, h⟩
  · exact .inl (by rw [ha]; exact h)
  · exact .inr ⟨w, by rw [ha]; exact h⟩
theorem reps_is {K : PySem.W.Frag} {φ : List Addr} {H : Hp} : ∀ is : List Int, Reps K φ H (is.map V.int) (is.map D.int)
  | [] => .nil
  | _ :: is => .cons (.int _) (reps_is is)
theorem KF.sq {K : PySem.W.Frag} {ds : List D} (h : KF K a ds) (H : Hp) (φ : List Addr) : ∃ xs, SqL K H a xs ∧ Reps K φ H xs ds := by
  obtain ⟨is, rfl, r⟩ := h
  exact ⟨_, .inr r, reps_is is⟩
theorem RepO.fro {ds : List D} (h : RepO c φ H a (.fro ds)) : ∃ xs, SqL c.K H a xs ∧ Reps c.K φ H xs ds := by
  rcases h with ⟨xs, e, r⟩ | h
  · exact ⟨xs, .inl e, r⟩
  · exact h.sq H φ
theorem RepO.mono (h : RepO c φ H a o) (hφ : φ <+: φ') (hk : Keep H H') (ha : H' a = H a) : RepO c φ' H' a o := by
  cases o with
  | lst ds => obtain ⟨xs, e, r⟩ := h; exact ⟨xs, by rw [ha]; exact e, r.mono hφ hk⟩
  | fro ds =>
    rcases h with ⟨xs, e, r⟩ | h
    · exact .inl ⟨xs, Rd.same e ha, r.mono hφ hk⟩
    · exact .inr h
  | dct kvs =>
    rcases h with ⟨ks, e, r⟩ | ⟨ks, e, r⟩
    · exact .inl ⟨ks, by rw [ha]; exact e, r.mono hφ hk⟩
    · exact .inr ⟨ks, by rw [ha]; exact e, r.mono hφ hk⟩
theorem IsKF.rep (h : IsKF c.K a o) (φ : List Addr) (H : Hp) : RepO c φ H a o := by
  obtain ⟨ds, rfl, k⟩ := h
  exact .inr k
/-- what stands at an object's address: no tuple, no table -/
def plainO : HO → Bool
  | .tup _ => false
  | .tbl _ => false
  | _ => true
theorem plain_tup {u : HO} (h : plainO u = true) (xs : List V) : u ≠ .tup xs := by rintro rfl; cases h
theorem plain_tbl {u : HO} (h : plainO u = true) (ps : Array Value) : u ≠ .tbl ps := by rintro rfl; cases h
theorem RepO.at (h : RepO c φ H a o) : (∃ u, H a = some u ∧ plainO u = true) ∨ IsKF c.K a o := by
  cases o with
  | lst ds => obtain ⟨xs, e, r⟩ := h; exact .inl ⟨_, e, rfl⟩
  | fro ds =>
    rcases h with ⟨xs, e, r⟩ | h
    · rcases e with e | ⟨w, e⟩
      · exact .inl ⟨_, e, rfl⟩
      · exact .inl ⟨_, e, rfl⟩
    · exact .inr ⟨ds, rfl, h⟩
  | dct kvs =>
    rcases h with ⟨ks, e, r⟩ | ⟨ks, e, r⟩
    · exact .inl ⟨_, e, rfl⟩
    · exact .inl ⟨_, e, rfl⟩
theorem notKF {K : PySem.W.Frag} (hf : notFro o = true) (h : IsKF K a o) : False := by
  obtain ⟨ds, rfl, _⟩ := h
  cases hf
theorem RepO.at' (h : RepO c φ H a o) (hf : notFro o = true) : ∃ u, H a = some u ∧ plainO u = true := by
  rcases h.at with h | h
  · exact h
  · exact (notKF hf h).elim
/-- it stays where its address's thing stays -/
theorem RepO.stay (h : RepO c φ H a o) (hφ : φ <+: φ') (hk : Keep H H') (ha : ∀ u, H a = some u → plainO u = true → H' a = H a) : RepO c φ' H' a o := by
  rcases h.at with ⟨u, e, hp⟩ | k
  · exact h.mono hφ hk (ha u e hp)
  · exact k.rep φ' H'
theorem Rel.get (R : Rel c φ S H) {n : Nat} (e : φ[n]? = some a) : ∃ o : O, (S : List O)[n]? = some o ∧ RepO c φ H a o := by
  have h1 : n < φ.length := (List.getElem?_eq_some_iff.mp e).1
  have h2 : n < List.length S := by rw [← R.len]; exact h1
  exact ⟨_, List.getElem?_eq_getElem h2, R.obj n a _ e (List.getElem?_eq_getElem h2)⟩
theorem Rel.get' (R : Rel c φ S H) {n : Nat} {o : O} (e : (S : List O)[n]? = some o) : ∃ a : Addr, φ[n]? = some a ∧ RepO c φ H a o := by
  have h1 : n < List.length S := (List.getElem?_eq_some_iff.mp e).1
  have h2 : n < φ.length := by rw [R.len]; exact h1
  exact ⟨_, List.getElem?_eq_getElem h2, R.obj n _ _ (List.getElem?_eq_getElem h2) e⟩
/-- a new thing that is not in the store (a tuple) -/
theorem Rel.skip (R : Rel c φ S H) {u : HO} (hp : H p = none) : Rel c φ S (upd H p u) := by
  refine ⟨R.len, R.nd, fun n b w e1 e2 => ?_, fun P hP => ?_⟩
  · exact (R.obj n b w e1 e2).stay (List.prefix_refl _) (Keep.new hp) fun q hq _ => upd_ne (ne_of_none hq hp)
  · obtain ⟨ps, e, t⟩ := R.tab P hP
    exact ⟨ps, by rw [upd_ne (ne_of_none e hp)]; exact e, t⟩
theorem get_app {α : Type} {l : List α} {x y : α} {n : Nat} (h : (l ++ [x])[n]? = some y) : l[n]? = some y ∨ (n = l.length ∧ y = x) := by
  by_cases hn : n < l.length
  · rw [List.getElem?_append_left hn] at h; exact .inl h
  · rw [List.getElem?_append_right (by omega)] at h
    have h1 := (List.getElem?_eq_some_iff.mp h).1
    have h2 : n - l.length = 0 := by simp at h1; omega
    rw [h2] at h
    simp at h
    exact .inr ⟨by omega, h.symm⟩
/-- a new object of the store -/
theorem Rel.new (R : Rel c φ S H) {u : HO} {o : O} (hp : H p = none) (h : RepO c (φ ++ [p]) (upd H p u) p o) : Rel c (φ ++ [p]) (S ++ [o]) (upd H p u) := by
  have old : ∀ (m : Nat) (w : O), φ[m]? = some p → (S : List O)[m]? = some w → IsKF c.K p w := fun m w e1 e2 => by
    rcases (R.obj m p w e1 e2).at with ⟨q, hq, _⟩ | k
    · rw [hp] at hq; cases hq
    · exact k
  have lt : ∀ (m : Nat) (b : Addr), φ[m]? = some b → m < List.length S := fun m b e => by rw [← R.len]; exact (List.getElem?_eq_some_iff.mp e).1
  refine ⟨by rw [List.length_append, List.length_append, R.len]; rfl, fun n m b w w' hne e1 e2 e3 e4 => ?_, fun n b w e1 e2 => ?_, fun P hP => ?_⟩
  · rcases get_app e1 with q1 | ⟨z1, z2⟩
    · rw [List.getElem?_append_left (lt _ _ q1)] at e3
      rcases get_app e2 with q2 | ⟨z3, z4⟩
      · rw [List.getElem?_append_left (lt _ _ q2)] at e4
        exact R.nd n m b w w' hne q1 q2 e3 e4
      · rw [z4] at q1 ⊢
        exact .inl (old n w q1 e3)
    · rcases get_app e2 with q2 | ⟨z3, _⟩
      · rw [List.getElem?_append_left (lt _ _ q2)] at e4
        rw [z2] at q2 ⊢
        exact .inr (old m w' q2 e4)
      · exact absurd (z1.trans z3.symm) hne
  · rcases get_app e1 with e1 | ⟨rfl, rfl⟩
    · rw [List.getElem?_append_left (lt _ _ e1)] at e2
      exact (R.obj n b w e1 e2).stay (List.prefix_append _ _) (Keep.new hp) fun q hq _ => upd_ne (ne_of_none hq hp)
    · rw [R.len, List.getElem?_append_right (Nat.le_refl _)] at e2
      simp at e2
      subst e2
      exact h
  · obtain ⟨ps, e, t⟩ := R.tab P hP
    exact ⟨ps, by rw [upd_ne (ne_of_none e hp)]; exact e, t⟩
theorem RepO.keep (h : RepO c φ H a o) {u : HO} (hf : notFro o = true := by rfl) : Keep H (upd H a u) := by
  obtain ⟨q, hq, hp⟩ := h.at' hf
  exact Keep.store hq (plain_tup hp)
/-- an object of the store is changed -/
theorem Rel.write (R : Rel c φ S H) {n : Nat} {u : HO} {o o' : O} (e : φ[n]? = some a) (e0 : (S : List O)[n]? = some o) (hf : notFro o = true) (h' : RepO c φ (upd H a u) a o') : Rel c φ (List.set S n o') (upd H a u) := by
  have r0 := R.obj _ _ _ e e0
  obtain ⟨q, hq, hp⟩ := r0.at' hf
  have hlt := (List.getElem?_eq_some_iff.mp e0).1
  have other : ∀ (m : Nat) (b : Addr) (w : O), m ≠ n → φ[m]? = some b → (S : List O)[m]? = some w → b ≠ a ∨ IsKF c.K b w := fun m b w hm e1 e2 => by
    by_cases hb : b = a
    · subst hb
      rcases R.nd m n b w o hm e1 e e2 e0 with k | k
      · exact .inr k
      · exact (notKF hf k).elim
    · exact .inl hb
  refine ⟨by rw [List.length_set]; exact R.len, fun k m b w w' hne e1 e2 e3 e4 => ?_, fun m b w e1 e2 => ?_, fun P hP => ?_⟩
  · by_cases hk : k = n
    · subst hk
      rw [List.getElem?_set_ne hne] at e4
      rw [e] at e1; cases e1
      rcases other m a w' (Ne.symm hne) e2 e4 with z | z
      · exact absurd rfl z
      · exact .inr z
    · rw [List.getElem?_set_ne (Ne.symm hk)] at e3
      by_cases hm : m = n
      · subst hm
        rw [e] at e2; cases e2
        rcases other k a w hk e1 e3 with z | z
        · exact absurd rfl z
        · exact .inl z
      · rw [List.getElem?_set_ne (Ne.symm hm)] at e4
        exact R.nd k m b w w' hne e1 e2 e3 e4
  · by_cases hm : m = n
    · subst hm
      rw [e] at e1; cases e1
      rw [List.getElem?_set_self hlt] at e2
      cases e2
      exact h'
    · rw [List.getElem?_set_ne (Ne.symm hm)] at e2
      rcases other m b w hm e1 e2 with hb | k
      · exact (R.obj m b w e1 e2).mono (List.prefix_refl _) (Keep.store hq (plain_tup hp)) (upd_ne hb)
      · exact k.rep _ _
  · obtain ⟨ps, e3, t⟩ := R.tab P hP
    have hb : P ≠ a := fun z => by rw [z, hq] at e3; exact plain_tbl hp ps (Option.some.inj e3)
    exact ⟨ps, by rw [upd_ne hb]; exact e3, t⟩
end

end RF

end

/-! ## RB -/
section
set_option maxRecDepth 100000
/-! The judgements over data: expressions; operators by data. -/
namespace RF
open PySem L2

abbrev EV := Slots → Store → Option (D × Store)
abbrev AV := Slots → Store → Option (List D × Store)

section
variable (c : Ct)
def QE (φ : List Addr) (H : Hp) (S' : Store) (d : D) : VK := fun v H' => Post c φ H S' (fun φ' => Rep c.K φ' H' v d) H'
def QA (φ : List Addr) (H : Hp) (S' : Store) (ds : List D) : List V → Hp → Prop := fun vs H' => Post c φ H S' (fun φ' => Reps c.K φ' H' vs ds) H'
def QB (φ : List Addr) (H : Hp) (S' : Store) (b : Bool) : Bool → Hp → Prop := fun k H' => Post c φ H S' (fun _ => k = b) H'
def tE (f : EV) : TE := fun σ H Q => ∃ φ σD S d S', Rel c φ S H ∧ SlotRel c.K φ H σD σ ∧ f σD S = some (d, S') ∧ ∀ v H', QE c φ H S' d v H' → Q v H'
def tA (f : AV) : TA := fun σ H Q => ∃ φ σD S ds S', Rel c φ S H ∧ SlotRel c.K φ H σD σ ∧ f σD S = some (ds, S') ∧ ∀ vs H', QA c φ H S' ds vs H' → Q vs H'
def tT (f : Slots → Store → Option (Bool × Store)) : TT := fun σ H Q => ∃ φ σD S b S', Rel c φ S H ∧ SlotRel c.K φ H σD σ ∧ f σD S = some (b, S') ∧ ∀ k H', QB c φ H S' b k H' → Q k H'
end
/-- an expression by its data -/
abbrev SE (T : List Addr) (X : Cx) (e : Expr) (f : EV) : Prop := PE X e (tE (ctOf X T) f)
abbrev SA (T : List Addr) (X : Cx) (es : List Expr) (f : AV) : Prop := PA X es (tA (ctOf X T) f)
abbrev ST (T : List Addr) (X : Cx) (e : Expr) (f : Slots → Store → Option (Bool × Store)) : Prop := PT X e (tT (ctOf X T) f)

theorem PE.weak {X : Cx} {e : Expr} {t u : TE} (h : PE X e t) (w : ∀ σ H Q, u σ H Q → t σ H Q) : PE X e u := ⟨fun pins s σ H Q I q => h.run pins s σ H Q I (w σ H Q q)⟩
theorem PA.weak {X : Cx} {es : List Expr} {t u : TA} (h : PA X es t) (w : ∀ σ H Q, u σ H Q → t σ H Q) : PA X es u := ⟨fun pos pins s σ H Q I q => h.run pos pins s σ H Q I (w σ H Q q)⟩
theorem PT.weak {X : Cx} {e : Expr} {t u : TT} (h : PT X e t) (w : ∀ σ H Q, u σ H Q → t σ H Q) : PT X e u := ⟨fun pins s σ H Q I q => h.run pins s σ H Q I (w σ H Q q)⟩

section
variable {c : Ct} {φ φ' : List Addr} {S S' : Store} {H H' : Hp}
theorem QE.here {v : V} {d : D} (R : Rel c φ S H) (r : Rep c.K φ H v d) : QE c φ H S d v H := ⟨φ, List.prefix_refl _, Keep.refl _, R, r⟩
theorem QE.later {v : V} {d : D} {H2 : Hp} (hφ : φ <+: φ') (hk : Keep H H') (h : QE c φ' H' S' d v H2) : QE c φ H S' d v H2 := by
  obtain ⟨φ2, h1, h2, R, r⟩ := h
  exact ⟨φ2, hφ.trans h1, hk.trans h2, R, r⟩
theorem QA.later {vs : List V} {ds : List D} {H2 : Hp} (hφ : φ <+: φ') (hk : Keep H H') (h : QA c φ' H' S' ds vs H2) : QA c φ H S' ds vs H2 := by
  obtain ⟨φ2, h1, h2, R, r⟩ := h
  exact ⟨φ2, hφ.trans h1, hk.trans h2, R, r⟩
theorem QB.later {k b : Bool} {H2 : Hp} (hφ : φ <+: φ') (hk : Keep H H') (h : QB c φ' H' S' b k H2) : QB c φ H S' b k H2 := by
  obtain ⟨φ2, h1, h2, R, r⟩ := h
  exact ⟨φ2, hφ.trans h1, hk.trans h2, R, r⟩
/-- a new tuple -/
theorem QE.tup {p : Addr} {xs : List V} {ds : List D} (R : Rel c φ S H) (r : Reps c.K φ H xs ds) (hp : H p = none) : QE c φ H S (.tup ds) (.ref p) (upd H p (.tup xs)) :=
  ⟨φ, List.prefix_refl _, Keep.new hp, R.skip hp, .tup (.inl upd_same) (r.mono (List.prefix_refl _) (Keep.new hp))⟩
/-- a new list -/
theorem QE.lst {p : Addr} {xs : List V} {ds : List D} (R : Rel c φ S H) (r : Reps c.K φ H xs ds) (hp : H p = none) : QE c φ H (S ++ [.lst ds]) (.loc (List.length S)) (.ref p) (upd H p (.lst xs)) := by
  refine ⟨φ ++ [p], List.prefix_append _ _, Keep.new hp, R.new hp ⟨xs, upd_same, r.mono (List.prefix_append _ _) (Keep.new hp)⟩, .loc ?_⟩
  rw [← R.len]
  simp
end

/-! ### operators by data -/
abbrev G2 := D → D → Store → Option (D × Store)
/-- the rule r does what g says -/
def Does2 (c : Ct) (r : R2) (g : G2) : Prop :=
  ∀ (φ : List Addr) (S : Store) (H : Hp) (x y : V) (dx dy d : D) (S' : Store) (Q : VK), Rel c φ S H → Rep c.K φ H x dx → Rep c.K φ H y dy → g dx dy S = some (d, S') → (∀ v H', QE c φ H S' d v H' → Q v H') → r x y H Q
def bind2 (g : G2) (fa fb : EV) : EV := fun σ S => match fa σ S with
  | some (x, S1) => match fb σ S1 with
    | some (y, S2) => g x y S2
    | none => none
  | none => none
section
variable {X : Cx} {T : List Addr} {a b : Expr} {fa fb : EV} {pos : Pos} {r : R2} {g : G2}
theorem tE_two {ta : EV} {σ : St} {H : Hp} {Q : VK} (hr : Does2 (ctOf X T) r g) (h : tE (ctOf X T) (bind2 g ta fb) σ H Q) : tE (ctOf X T) ta σ H fun x H1 => tE (ctOf X T) fb σ H1 fun y H2 => r x y H2 Q := by
  obtain ⟨φ, σD, S, d, S', R, L, e, q⟩ := h
  unfold bind2 at e
  split at e
  · rename_i x S1 e1
    split at e
    · rename_i y S2 e2
      refine ⟨φ, σD, S, x, S1, R, L, e1, fun v H1 ⟨φ1, h1, k1, R1, r1⟩ => ?_⟩
      refine ⟨φ1, σD, S1, y, S2, R1, L.mono h1 k1, e2, fun u H2 ⟨φ2, h2, k2, R2, r2⟩ => ?_⟩
      exact hr φ2 S2 H2 v u x y d S' Q R2 (r1.mono h2 k2) r2 e fun v' H' q' => q v' H' (QE.later (h1.trans h2) (k1.trans k2) q')
    · cases e
  · cases e
theorem se_bin {op : Operator} (ho : OpR X (binaryOp op) r) (hr : Does2 (ctOf X T) r g) (ha : SE T X a fa) (hb : SE T X b fb) : SE T X (.BinOp a op b pos) (bind2 g fa fb) :=
  PE.weak (pe_op ho ha hb) fun _ _ _ h => tE_two hr h
theorem se_cmp {op : CmpOp} (ho : OpR X (compareOp op) r) (hr : Does2 (ctOf X T) r g) (hm : behindInMarks op b = false) (ha : SE T X a fa) (hb : SE T X b fb) : SE T X (.Compare a [op] [b] pos) (bind2 g fa fb) :=
  PE.weak (pe_cmpR ho ha hb hm) fun _ _ _ h => tE_two hr h
end

/-- the largest length that is let pass -/
def most : Nat := 100000
theorem most_line {n : Nat} (h : n ≤ most) : n ≤ sizeLine := Nat.le_trans h (by decide)

def addD : G2 := fun x y S => match x, y with
  | .int i, .int j => some (.int (i + j), S)
  | .tup a, .tup b => if a.length + b.length ≤ most then some (.tup (a ++ b), S) else none
  | .loc n, .loc m => match (S : List O)[n]?, (S : List O)[m]? with
    | some (.lst a), some (.lst b) => if a.length + b.length ≤ most then some (.loc (List.length S), S ++ [.lst (a ++ b)]) else none
    | _, _ => none
  | .str a, .str b => if a.length + b.length ≤ most then some (.str (a ++ b), S) else none
  | _, _ => none
def rAddD (K : PySem.W.Frag) : R2 := fun x y H Q => rI0 (fun i j => .int (i + j)) x y H Q ∨ rCatA K x y H Q ∨ rCat x y H Q ∨ (∃ i j, x = .str i ∧ y = .str j ∧ i.length + j.length ≤ sizeLine ∧ Q (.str (i ++ j)) H)
theorem op_addD {X : Cx} : OpR X (binaryOp .Add) (rAddD X.K) := OpR.or op_add (OpR.or op_catA (OpR.or op_cat op_add_str))
theorem does_add {c : Ct} : Does2 c (rAddD c.K) addD := by
  intro φ S H x y dx dy d S' Q R rx ry e q
  unfold addD at e
  split at e
  · cases e
    exact .inl ⟨_, _, rx.int_inv, ry.int_inv, q _ _ (.here R (.int _))⟩
  · rename_i as bs
    obtain ⟨a, xs, rfl, ta, ra⟩ := rx.tup_inv
    obtain ⟨b, ys, rfl, tb, rb⟩ := ry.tup_inv
    split at e
    · rename_i hl
      cases e
      refine .inr (.inl ⟨a, b, xs, ys, rfl, rfl, ta.sq, tb.sq, ?_, fun h => ?_, fun h h' => ?_, fun _ _ p hp => ?_⟩)
      · rw [ra.length, rb.length]; exact most_line hl
      · subst h; cases ra; exact q _ _ (.here R ry)
      · subst h'; cases rb; rw [List.append_nil] at q; exact q _ _ (.here R rx)
      · exact q _ _ (.tup R (ra.append rb) hp)
    · cases e
  · rename_i n m
    obtain ⟨a, rfl, ea⟩ := rx.loc_inv
    obtain ⟨b, rfl, eb⟩ := ry.loc_inv
    split at e
    · rename_i as bs h1 h2
      split at e
      · rename_i hl
        cases e
        obtain ⟨xs, hx, ra⟩ := R.obj _ _ _ ea h1
        obtain ⟨ys, hy, rb⟩ := R.obj _ _ _ eb h2
        refine .inr (.inr (.inl ⟨a, b, xs, ys, rfl, rfl, hx, hy, ?_, fun p hp => q _ _ (.lst R (ra.append rb) hp)⟩))
        rw [ra.length, rb.length]; exact most_line hl
      · cases e
    · cases e
  · split at e
    · rename_i hl
      cases e
      exact .inr (.inr (.inr ⟨_, _, rx.str_inv, ry.str_inv, most_line hl, q _ _ (.here R (.str _))⟩))
    · cases e
  · cases e

/-- ints under a condition -/
def intD (C : Int → Int → Bool) (h : Int → Int → D) : G2 := fun x y S => match x, y with
  | .int i, .int j => if C i j = true then some (h i j, S) else none
  | _, _ => none
theorem does_int {c : Ct} {C : Int → Int → Prop} {Cb : Int → Int → Bool} {f : Int → Int → Int} (hC : ∀ i j, Cb i j = true → C i j) : Does2 c (rI C fun i j => .int (f i j)) (intD Cb fun i j => .int (f i j)) := by
  intro φ S H x y dx dy d S' Q R rx ry e q
  unfold intD at e
  split at e
  · split at e
    · rename_i hc
      cases e
      exact ⟨_, _, rx.int_inv, ry.int_inv, hC _ _ hc, q _ _ (.here R (.int _))⟩
    · cases e
  · cases e
theorem does_int0 {c : Ct} {f : Int → Int → Int} : Does2 c (rI0 fun i j => .int (f i j)) (intD (fun _ _ => true) fun i j => .int (f i j)) := by
  intro φ S H x y dx dy d S' Q R rx ry e q
  unfold intD at e
  split at e
  · split at e
    · rename_i hc
      cases e
      exact ⟨_, _, rx.int_inv, ry.int_inv, q _ _ (.here R (.int _))⟩
    · cases e
  · cases e
theorem does_intB {c : Ct} {f : Int → Int → Bool} : Does2 c (rI0 fun i j => .bl (f i j)) (intD (fun _ _ => true) fun i j => .bl (f i j)) := by
  intro φ S H x y dx dy d S' Q R rx ry e q
  unfold intD at e
  split at e
  · split at e
    · rename_i hc
      cases e
      exact ⟨_, _, rx.int_inv, ry.int_inv, q _ _ (.here R (.bl _))⟩
    · cases e
  · cases e

/-- the binary operators of data -/
def binD : Operator → G2
  | .Add => addD
  | .Sub => intD (fun _ _ => true) fun i j => .int (i - j)
  | .Mult => intD (fun i j => decide (i.natAbs < 2 ^ 64) || decide (j.natAbs < 2 ^ 64)) fun i j => .int (i * j)
  | .FloorDiv => intD (fun _ j => decide (j ≠ 0) && decide (j.natAbs < 1073741824)) fun i j => .int (i.fdiv j)
  | .Mod => intD (fun _ j => decide (j ≠ 0)) fun i j => .int (i.fmod j)
  | .LShift => intD (fun i j => decide (0 ≤ j) && decide (j ≤ 1000000) && decide (i.natAbs < 2 ^ 64)) fun i j => .int (i * 2 ^ j.toNat)
  | .RShift => intD (fun _ j => decide (0 ≤ j)) fun i j => .int (i / 2 ^ j.toNat)
  | .BitAnd => intD (fun _ _ => true) fun i j => .int (Builtin.bitAnd i j)
  | .BitOr => intD (fun _ _ => true) fun i j => .int (Builtin.bitOr i j)
  | .BitXor => intD (fun _ _ => true) fun i j => .int (Builtin.bitXor i j)
  | _ => fun _ _ _ => none
theorem does_none {c : Ct} {r : R2} : Does2 c r fun _ _ _ => none := by
  intro _ _ _ _ _ _ _ _ _ _ _ _ _ e _
  cases e
theorem c_mul {i j : Int} (h : (decide (i.natAbs < 2 ^ 64) || decide (j.natAbs < 2 ^ 64)) = true) : CMul i j := by
  rw [Bool.or_eq_true, decide_eq_true_eq, decide_eq_true_eq] at h
  rcases h with h | h
  · exact .inl ⟨by omega, by omega⟩
  · exact .inr ⟨by omega, by omega⟩
theorem c_div {i j : Int} (h : (decide (j ≠ 0) && decide (j.natAbs < 1073741824)) = true) : CDivN i j := by
  rw [Bool.and_eq_true, decide_eq_true_eq, decide_eq_true_eq] at h
  exact h
theorem c_pow {i j : Int} (h : (decide (0 ≤ j) && decide (j ≤ 1000000) && decide (i.natAbs < 2 ^ 64)) = true) : CPow i j := by
  rw [Bool.and_eq_true, Bool.and_eq_true, decide_eq_true_eq, decide_eq_true_eq, decide_eq_true_eq] at h
  exact ⟨h.1.1, h.1.2, h.2⟩
theorem se_fail {X : Cx} {T : List Addr} {e : Expr} {f : EV} (h : ∀ σ S, f σ S = none) : SE T X e f :=
  PE.weak (t := fun _ _ _ => False) ⟨fun _ _ _ _ _ _ h => h.elim⟩ fun σ H Q ⟨φ, σD, S, d, S', R, L, e, q⟩ => by
    rw [h] at e
    cases e
theorem bind2_none {fa fb : EV} (σ : Slots) (S : Store) : bind2 (fun _ _ _ => none) fa fb σ S = none := by
  unfold bind2
  split
  · split <;> rfl
  · rfl
theorem se_binD {X : Cx} {T : List Addr} {a b : Expr} {fa fb : EV} {pos : Pos} (op : Operator) (ha : SE T X a fa) (hb : SE T X b fb) : SE T X (.BinOp a op b pos) (bind2 (binD op) fa fb) := by
  cases op
  case Add => exact se_bin op_addD does_add ha hb
  case Sub => exact se_bin op_sub does_int0 ha hb
  case Mult => exact se_bin op_mul (does_int fun _ _ => c_mul) ha hb
  case FloorDiv => exact se_bin op_fdivN (does_int fun _ _ => c_div) ha hb
  case Mod => exact se_bin op_modN (does_int fun _ _ h => of_decide_eq_true h) ha hb
  case LShift => exact se_bin op_shl (does_int fun _ _ => c_pow) ha hb
  case RShift => exact se_bin op_shr (does_int fun _ _ h => of_decide_eq_true h) ha hb
  case BitAnd => exact se_bin op_and does_int0 ha hb
  case BitOr => exact se_bin op_or does_int0 ha hb
  case BitXor => exact se_bin op_xor does_int0 ha hb
  all_goals exact se_fail bind2_none
end RF

end

/-! ## RC -/
section
set_option maxRecDepth 100000
/-! Comparisons by data. -/
namespace RF
open PySem L2

/-! ### data as a whole -/
def allS {α : Type} : List (Option α) → Option (List α)
  | [] => some []
  | none :: _ => none
  | some a :: r => match allS r with
    | some as => some (a :: as)
    | none => none
def toPy (S : Store) : Nat → D → Option PyData
  | _, .non => some .none
  | _, .bl b => some (.bool b)
  | _, .int i => some (.int i)
  | _, .str x => if PySem.PyData.strOk x = true then some (.str x) else none
  | 0, .tup _ => none
  | 0, .loc _ => none
  | f + 1, .tup ds => match allS (ds.map (toPy S f)) with
    | some ps => some (.tuple ps)
    | none => none
  | f + 1, .loc n => match (S : List O)[n]? with
    | some (.lst ds) => match allS (ds.map (toPy S f)) with
      | some ps => some (.list ps)
      | none => none
    | some (.fro ds) => match allS (ds.map (toPy S f)) with
      | some ps => some (.list ps)
      | none => none
    | _ => none
def toPys (S : Store) (f : Nat) (ds : List D) : Option (List PyData) := allS (ds.map (toPy S f))
theorem toPy_non (S : Store) (f : Nat) : toPy S f .non = some .none := by cases f <;> rfl
theorem toPy_bl (S : Store) (f : Nat) (b : Bool) : toPy S f (.bl b) = some (.bool b) := by cases f <;> rfl
theorem toPy_int (S : Store) (f : Nat) (i : Int) : toPy S f (.int i) = some (.int i) := by cases f <;> rfl
theorem toPy_str (S : Store) (f : Nat) (x : Str) : toPy S f (.str x) = if PySem.PyData.strOk x = true then some (.str x) else none := by cases f <;> rfl
theorem toPy_tup0 (S : Store) (ds : List D) : toPy S 0 (.tup ds) = none := rfl
theorem toPy_loc0 (S : Store) (n : Nat) : toPy S 0 (.loc n) = none := rfl
theorem toPy_tup (S : Store) (f : Nat) (ds : List D) : toPy S (f + 1) (.tup ds) = match toPys S f ds with
    | some ps => some (.tuple ps)
    | none => none := rfl
theorem toPy_loc (S : Store) (f : Nat) (n : Nat) : toPy S (f + 1) (.loc n) = match (S : List O)[n]? with
    | some (.lst ds) => match toPys S f ds with
      | some ps => some (.list ps)
      | none => none
    | some (.fro ds) => match toPys S f ds with
      | some ps => some (.list ps)
      | none => none
    | _ => none := rfl
theorem toPys_nil (S : Store) (f : Nat) : toPys S f [] = some [] := rfl
theorem toPys_cons (S : Store) (f : Nat) (d : D) (ds : List D) : toPys S f (d :: ds) = match toPy S f d, toPys S f ds with
    | some p, some ps => some (p :: ps)
    | _, _ => none := by
  unfold toPys
  rw [List.map_cons]
  cases toPy S f d with
  | none => rfl
  | some p =>
    simp only [allS]
    cases allS (ds.map (toPy S f)) <;> rfl

section
variable {c : Ct} {φ φ' : List Addr} {S S' : Store} {H H' : Hp}
mutual
theorem toPy_dp (R : Rel c φ S H) : ∀ (f : Nat) (d : D) (v : V) (p : PyData), Rep c.K φ H v d → toPy S f d = some p → Dp c.K H v p
  | f, .non, v, p, r, e => by
    rw [r.non_inv]
    (simp only [toPy_non, toPy_bl, toPy_int, Option.some.injEq] at e; subst e; exact .non)
  | f, .bl b, v, p, r, e => by
    rw [r.bl_inv]
    (simp only [toPy_non, toPy_bl, toPy_int, Option.some.injEq] at e; subst e; exact .bl b)
  | f, .int i, v, p, r, e => by
    rw [r.int_inv]
    (simp only [toPy_non, toPy_bl, toPy_int, Option.some.injEq] at e; subst e; exact .int i)
  | f, .str x, v, p, r, e => by
    rw [r.str_inv]
    have e2 : (if PySem.PyData.strOk x = true then some (PyData.str x) else none) = some p := by rw [toPy_str] at e; exact e
    split at e2
    · cases e2; exact .str x
    · cases e2
  | 0, .tup _, v, p, r, e => by rw [toPy_tup0] at e; cases e
  | 0, .loc _, v, p, r, e => by rw [toPy_loc0] at e; cases e
  | f + 1, .tup ds, v, p, r, e => by
    obtain ⟨a, xs, rfl, t, rs⟩ := r.tup_inv
    rw [toPy_tup] at e
    cases h : toPys S f ds with
    | none => rw [h] at e; cases e
    | some ps => rw [h] at e; cases e; exact .tup t.sq (toPys_dp R f ds xs ps rs h)
  | f + 1, .loc n, v, p, r, e => by
    obtain ⟨a, rfl, ea⟩ := r.loc_inv
    rw [toPy_loc] at e
    cases h : (S : List O)[n]? with
    | none => rw [h] at e; cases e
    | some o =>
      have ro := R.obj _ _ _ ea h
      rw [h] at e
      cases o with
      | lst ds =>
        obtain ⟨xs, hx, rs⟩ := ro
        simp only at e
        cases h2 : toPys S f ds with
        | none => rw [h2] at e; cases e
        | some ps => rw [h2] at e; cases e; exact .lst (SqL.of hx) (toPys_dp R f ds xs ps rs h2)
      | fro ds =>
        obtain ⟨xs, hx, rs⟩ := RepO.fro ro
        simp only at e
        cases h2 : toPys S f ds with
        | none => rw [h2] at e; cases e
        | some ps => rw [h2] at e; cases e; exact .lst hx (toPys_dp R f ds xs ps rs h2)
      | dct kvs => cases e
theorem toPys_dp (R : Rel c φ S H) : ∀ (f : Nat) (ds : List D) (xs : List V) (ps : List PyData), Reps c.K φ H xs ds → toPys S f ds = some ps → DpAll c.K H xs ps
  | f, [], xs, ps, r, e => by
    cases r
    (simp only [toPys_nil, Option.some.injEq] at e; subst e; exact .nil)
  | f, d :: ds, xs, ps, r, e => by
    cases r with
    | cons r rs =>
      have e2 : (match toPy S f d, toPys S f ds with
        | some p, some ps => some (p :: ps)
        | _, _ => none) = some ps := by rw [toPys_cons] at e; exact e
      cases h1 : toPy S f d with
      | none => rw [h1] at e2; cases e2
      | some p =>
        cases h2 : toPys S f ds with
        | none => rw [h1, h2] at e2; cases e2
        | some qs => rw [h1, h2] at e2; cases e2; exact .cons (toPy_dp R f d _ p r h1) (toPys_dp R f ds _ qs rs h2)
end
end

mutual
theorem toPy_lay (S : Store) : ∀ (f : Nat) (d : D) (p : PyData), toPy S f d = some p → p.canLay0 = true ∧ p.depth ≤ f
  | f, .non, p, e => by (simp only [toPy_non, toPy_bl, toPy_int, Option.some.injEq] at e; subst e; exact ⟨rfl, Nat.zero_le _⟩)
  | f, .bl b, p, e => by (simp only [toPy_non, toPy_bl, toPy_int, Option.some.injEq] at e; subst e; exact ⟨rfl, Nat.zero_le _⟩)
  | f, .int i, p, e => by (simp only [toPy_non, toPy_bl, toPy_int, Option.some.injEq] at e; subst e; exact ⟨rfl, Nat.zero_le _⟩)
  | f, .str x, p, e => by
    have e2 : (if PySem.PyData.strOk x = true then some (PyData.str x) else none) = some p := by rw [toPy_str] at e; exact e
    split at e2
    · rename_i h
      cases e2; exact ⟨h, Nat.zero_le _⟩
    · cases e2
  | 0, .tup _, p, e => by rw [toPy_tup0] at e; cases e
  | 0, .loc _, p, e => by rw [toPy_loc0] at e; cases e
  | f + 1, .tup ds, p, e => by
    rw [toPy_tup] at e
    cases h : toPys S f ds with
    | none => rw [h] at e; cases e
    | some ps =>
      rw [h] at e; cases e
      have q := toPys_lay S f ds ps h
      exact ⟨q.1, by show PyData.depthAll ps + 1 ≤ f + 1; omega⟩
  | f + 1, .loc n, p, e => by
    rw [toPy_loc] at e
    cases h : (S : List O)[n]? with
    | none => rw [h] at e; cases e
    | some o =>
      rw [h] at e
      cases o with
      | lst ds =>
        simp only at e
        cases h2 : toPys S f ds with
        | none => rw [h2] at e; cases e
        | some ps =>
          rw [h2] at e; cases e
          have q := toPys_lay S f ds ps h2
          exact ⟨q.1, by show PyData.depthAll ps + 1 ≤ f + 1; omega⟩
      | fro ds =>
        simp only at e
        cases h2 : toPys S f ds with
        | none => rw [h2] at e; cases e
        | some ps =>
          rw [h2] at e; cases e
          have q := toPys_lay S f ds ps h2
          exact ⟨q.1, by show PyData.depthAll ps + 1 ≤ f + 1; omega⟩
      | dct kvs => cases e
theorem toPys_lay (S : Store) : ∀ (f : Nat) (ds : List D) (ps : List PyData), toPys S f ds = some ps → PyData.canLayAll0 ps = true ∧ PyData.depthAll ps ≤ f
  | f, [], ps, e => by (simp only [toPys_nil, Option.some.injEq] at e; subst e; exact ⟨rfl, Nat.zero_le _⟩)
  | f, d :: ds, ps, e => by
    have e2 : (match toPy S f d, toPys S f ds with
        | some p, some ps => some (p :: ps)
        | _, _ => none) = some ps := by rw [toPys_cons] at e; exact e
    cases h1 : toPy S f d with
    | none => rw [h1] at e2; cases e2
    | some p =>
      cases h2 : toPys S f ds with
      | none => rw [h1, h2] at e2; cases e2
      | some qs =>
        rw [h1, h2] at e2; cases e2
        have q1 := toPy_lay S f d p h1
        have q2 := toPys_lay S f ds qs h2
        refine ⟨by show (p.canLay0 && PyData.canLayAll0 qs) = true; rw [q1.1, q2.1]; rfl, ?_⟩
        show max p.depth (PyData.depthAll qs) ≤ f
        omega
end
/-- data that is compared -/
def py (S : Store) (d : D) : Option PyData := toPy S 40 d
theorem py_shaped {S : Store} {d : D} {p : PyData} (h : py S d = some p) : SeqAt.shaped p = true := by
  obtain ⟨a, b⟩ := toPy_lay S 40 d p h
  unfold SeqAt.shaped
  rw [a, decide_eq_true (by omega)]
  rfl

/-! ### ==, != -/
def eqD (neg : Bool) : G2 := fun x y S => match py S x, py S y with
  | some p, some q => some (.bl (if neg then !PyData.eqv p q else PyData.eqv p q), S)
  | _, _ => none
theorem does_eq {c : Ct} : Does2 c (rEqD c.K) (eqD false) := by
  intro φ S H x y dx dy d S' Q R rx ry e q
  unfold eqD at e
  split at e
  · rename_i p p' h1 h2
    cases e
    exact ⟨p, p', toPy_dp R _ _ _ _ rx h1, toPy_dp R _ _ _ _ ry h2, py_shaped h1, py_shaped h2, q _ _ (.here R (.bl _))⟩
  · cases e
theorem does_ne {c : Ct} : Does2 c (rNeD c.K) (eqD true) := by
  intro φ S H x y dx dy d S' Q R rx ry e q
  unfold eqD at e
  split at e
  · rename_i p p' h1 h2
    cases e
    exact ⟨p, p', toPy_dp R _ _ _ _ rx h1, toPy_dp R _ _ _ _ ry h2, py_shaped h1, py_shaped h2, q _ _ (.here R (.bl _))⟩
  · cases e

/-! ### operators by what they do -/
def DoesOp (T : List Addr) (X : Cx) (f : Value → Value → Sem Value) (g : G2) : Prop :=
  ∀ (pins : List (Addr × Obj)) (s : Shared) (σ : St) (H : Hp) (φ : List Addr) (S : Store) (x y : V) (v u : Value) (dx dy d : D) (S' : Store), Inv X pins σ H s → Rel (ctOf X T) φ S H → Rep X.K φ H x dx → Rep X.K φ H y dy →
    RelV x v → RelV y u → g dx dy S = some (d, S') → wpAny (model X.prog X.w) X.A (f v u) (EP X pins σ (QE (ctOf X T) φ H S' d)) X.xe s
def rG (c : Ct) (g : G2) : R2 := fun x y H Q => ∃ φ S dx dy d S', Rel c φ S H ∧ Rep c.K φ H x dx ∧ Rep c.K φ H y dy ∧ g dx dy S = some (d, S') ∧ ∀ v H', QE c φ H S' d v H' → Q v H'
section
variable {X : Cx} {T : List Addr} {f : Value → Value → Sem Value} {g : G2} {r : R2}
theorem opR_of (h : DoesOp T X f g) : OpR X f (rG (ctOf X T) g) := by
  intro pins s σ H x y v u Q I rx ry ⟨φ, S, dx, dy, d, S', R, r1, r2, e, q⟩
  exact thn (h pins s σ H φ S x y v u dx dy d S' I R r1 r2 rx ry e) fun w s' ⟨z, H', I', rz, p⟩ => ⟨z, H', I', rz, q z H' p⟩
theorem does_rG {c : Ct} : Does2 c (rG c g) g := fun φ S H x y dx dy d S' Q R rx ry e q => ⟨φ, S, dx, dy, d, S', R, rx, ry, e, q⟩
theorem doesOp (ho : OpR X f r) (hr : Does2 (ctOf X T) r g) : DoesOp T X f g := fun pins s σ H φ S x y v u dx dy d S' I R r1 r2 rx ry e =>
  ho pins s σ H x y v u _ I rx ry (hr φ S H x y dx dy d S' _ R r1 r2 e fun _ _ q => q)
end

/-! ### dicts by data -/
theorem dKey_kV {K : PySem.W.Frag} {φ : List Addr} {H : Hp} {v : V} {d : D} {k : Key} (r : Rep K φ H v d) (e : dKey d = some k) : v = kV k := by
  cases d <;> simp only [dKey] at e <;> try cases e
  · rw [r.int_inv]; rfl
  · rw [r.str_inv]; rfl
/-- the look-up by data is the look-up by keys -/
theorem ents_val {κ : Type} [DecidableEq κ] {kf : D → Option κ} {K : PySem.W.Frag} {φ : List Addr} {H : Hp} {k : κ} : ∀ {ks : List (κ × V)} {kvs : List (D × D)}, Ents kf K φ H ks kvs →
    match valV ks k, (kvs.find? fun e => decide (kf e.1 = some k)).map (·.2) with
    | some v, some d => Rep K φ H v d
    | none, none => True
    | _, _ => False
  | _, _, .nil => True.intro
  | _, _, .cons (k := k0) (v := v0) (a := a0) (b := b0) (ks := ks) (ds := ds) e r t => by
    have ih := ents_val (k := k) t
    unfold valV at ih ⊢
    by_cases hk : k0 = k
    · subst hk
      simp [List.find?_cons, e]
      exact r
    · have h2 : ¬ (kf a0 = some k) := by rw [e]; intro z; exact hk (Option.some.inj z)
      simp [List.find?_cons, hk, h2]
      exact ih
theorem Ents.length {κ : Type} {kf : D → Option κ} {K : PySem.W.Frag} {φ : List Addr} {H : Hp} : ∀ {ks : List (κ × V)} {kvs : List (D × D)}, Ents kf K φ H ks kvs → ks.length = kvs.length
  | _, _, .nil => rfl
  | _, _, .cons _ _ t => by simp [Ents.length t]
theorem Ents.keys {κ : Type} {kf : D → Option κ} {K : PySem.W.Frag} {φ : List Addr} {H : Hp} : ∀ {ks : List (κ × V)} {kvs : List (D × D)}, Ents kf K φ H ks kvs → ∀ e ∈ kvs, (kf e.1).isSome = true
  | _, _, .nil => by intro e h; cases h
  | _, _, .cons e0 _ t => by
    intro e h
    rcases List.mem_cons.mp h with h | h
    · subst h; rw [e0]; rfl
    · exact t.keys e h
end RF

end

/-! ## RD -/
section
set_option maxRecDepth 100000
/-! Dicts by data. -/
namespace RF
open PySem L2

def kindOk (kvs : List (D × D)) (x : D) : Bool := match dKey x with
  | some _ => kvs.all fun e => (dKey e.1).isSome
  | none => (tkD x).isSome && kvs.all fun e => (tkD e.1).isSome
def lookD (kvs : List (D × D)) (x : D) : Option D := match dKey x with
  | some k => (kvs.find? fun e => decide (dKey e.1 = some k)).map (·.2)
  | none => match tkD x with
    | some k => (kvs.find? fun e => decide (tkD e.1 = some k)).map (·.2)
    | none => none
def putBy {κ : Type} [DecidableEq κ] (kf : D → Option κ) (k : κ) (x v : D) (kvs : List (D × D)) : List (D × D) :=
  if (kvs.any fun e => decide (kf e.1 = some k)) = true then kvs.map (fun e => if kf e.1 = some k then (e.1, v) else e) else kvs ++ [(x, v)]
def putD (kvs : List (D × D)) (x v : D) : List (D × D) := match dKey x with
  | some k => putBy dKey k x v kvs
  | none => match tkD x with
    | some k => putBy tkD k x v kvs
    | none => kvs
def dropD (kvs : List (D × D)) (x : D) : List (D × D) := match dKey x with
  | some k => kvs.filter fun e => decide (dKey e.1 ≠ some k)
  | none => match tkD x with
    | some k => kvs.filter fun e => decide (tkD e.1 ≠ some k)
    | none => kvs

theorem tkD_inv {x : D} {k : NestedKey} (h : tkD x = some k) : ∃ ds, x = .tup ds ∧ nkD x = some k ∧ k.depth ≤ 8 := by
  cases x <;> simp only [tkD] at h <;> try cases h
  rename_i ds
  cases e : nksD ds with
  | none => rw [e] at h; cases h
  | some ks =>
    rw [e] at h
    simp only at h
    split at h
    · rename_i hd
      cases h
      exact ⟨ds, rfl, by simp only [nkD, e], hd⟩
    · cases h

section
variable {X : Cx} {pins : List (Addr × Obj)} {σ : St} {H : Hp} {s : Shared} {φ : List Addr}
mutual
/-- a value that is data is a key of the heap -/
theorem rep_nested (I : Inv X pins σ H s) : ∀ {v : V} {d : D} {u : Value} {k : NestedKey}, Rep X.K φ H v d → RelV v u → nkD d = some k → NestedIs s.heap k u
  | _, _, u, k, .non, r, e => by cases e; obtain rfl : u = Value.none := r; exact .none
  | _, _, u, k, .bl b, r, e => by cases e; obtain rfl : u = Value.bool b := r; exact .bool rfl
  | _, _, u, k, .int i, r, e => by cases e; obtain ⟨t, rfl⟩ : ∃ t, u = Value.int i t := r; exact .int i t
  | _, _, u, k, .str x, r, e => by cases e; obtain ⟨t, rfl⟩ : ∃ t, u = Value.str x t := r; exact .text x t
  | _, _, u, k, .tup (a := a) (xs := xs) (ds := ds) t rs, r, e => by
    obtain rfl : u = Value.ref a := r
    simp only [nkD] at e
    cases h : nksD ds with
    | none => rw [h] at e; cases e
    | some ks =>
      rw [h] at e; cases e
      obtain ⟨its, rv, ⟨o, h1, h2, n, h3⟩, _⟩ := I.tuple t.sq
      exact .tup h1 h2 h3 (by simpa using reps_nested I rs rv h)
  | _, _, u, k, .loc _, r, e => by simp only [nkD] at e; cases e
theorem reps_nested (I : Inv X pins σ H s) : ∀ {xs : List V} {ds : List D} {us : List Value} {ks : List NestedKey}, Reps X.K φ H xs ds → Vals xs us → nksD ds = some ks → NestedAll s.heap ks us
  | _, _, us, ks, .nil, r, e => by
    cases r
    simp only [nksD, Option.some.injEq] at e
    subst e
    exact .nil
  | _, _, us, ks, .cons (d := d) (ds := ds) r0 t, r, e => by
    cases r with
    | cons rv rt =>
      simp only [nksD] at e
      cases h1 : nkD d with
      | none => rw [h1] at e; cases e
      | some k =>
        cases h2 : nksD ds with
        | none => rw [h1, h2] at e; cases e
        | some ks' =>
          rw [h1, h2] at e; cases e
          exact .cons (rep_nested I r0 rv h1) (reps_nested I t rt h2)
end
theorem rep_key (I : Inv X pins σ H s) {b : Addr} {d : D} {k : NestedKey} (r : Rep X.K φ H (.ref b) d) (e : tkD d = some k) : (nestedKind X.prog X.w).is s.heap k b := by
  obtain ⟨ds, rfl, h1, h2⟩ := tkD_inv e
  exact ⟨rep_nested I r rfl h1, h2⟩
theorem entsT_keys (I : Inv X pins σ H s) : ∀ {xs : List (NestedKey × Addr × Value)} {kvs : List (D × D)}, EntsT X.K φ H xs kvs → ∀ x ∈ xs, (nestedKind X.prog X.w).is s.heap x.1 x.2.1
  | _, _, .nil => by intro x h; cases h
  | _, _, .cons e r _ _ t => by
    intro x h
    rcases List.mem_cons.mp h with h | h
    · subst h; exact rep_key I r e
    · exact entsT_keys I t x h
/-- the dict in the heap -/
theorem kd_of (I : Inv X pins σ H s) {a : Addr} {xs : List (NestedKey × Addr × Value)} {kvs : List (D × D)} (h : H a = some (KD X.prog X.w a xs)) (E : EntsT X.K φ H xs kvs) : (a == sysModules) = false ∧ xs.length ≤ sizeLine ∧ s.heap.DictOfH (nestedKind X.prog X.w) a xs := by
  obtain ⟨⟨h1, h2, h3, o, es, ep, h4, h5, h6, h7⟩, _, _⟩ := I.hok a _ h
  exact ⟨h1, h2, o, es, ep, h4, h5, h6, h7, entsT_keys I E, h3⟩
theorem kd_new {P : Program} {w : World} {H : Hp} {h : Heap} {a : Addr} {xs : List (NestedKey × Addr × Value)} (h1 : (a == sysModules) = false) (h2 : xs.length ≤ sizeLine) (h3 : h.DictOfH (nestedKind P w) a xs) : ObjOk P w H h a (KD P w a xs) := by
  obtain ⟨o, es, ep, h4, h5, h6, h7, h8, h9⟩ := h3
  exact ⟨⟨h1, h2, h9, o, es, ep, h4, h5, h6, h7⟩, ⟨o, h4⟩, fun g g' ⟨q1, q2, q3, o', es', ep', q4, q5, q6, q7⟩ st => ⟨q1, q2, q3, o', es', ep', st _ q4, q5, q6, q7⟩⟩
/-- the abstract heap written anew, the heap as it is -/
theorem inv_anew (I : Inv X pins σ H s) {a : Addr} {u : HO} (mu : Mut (H a)) (he : ∃ o, s.heap.get? a = some o) (new : ObjOk X.prog X.w (upd H a u) s.heap a u) : Inv X pins σ (upd H a u) s :=
  I.write (x := a) (e := a) (o := u) (h' := s.heap) (t' := s.toks) mu (.inl rfl) (fun _ _ _ e => e) he new
theorem conv_k (I : Inv X pins σ H s) {a : Addr} (h : H a = some (KD X.prog X.w a [])) : Inv X pins σ (upd H a (.dK [])) s := by
  obtain ⟨⟨h1, h2, h3, o, es, ep, h4, h5, h6, h7⟩, _, _⟩ := I.hok a _ h
  refine inv_anew I (by rw [h]; exact True.intro) ⟨o, h4⟩ ⟨Nat.zero_le _, h1, [], .nil, o, es, ep, h4, h5, h6, ?_, ?_, List.nodup_nil⟩
  · have : es = #[] := by
      have q : es.toList = [] := h7
      simpa using q
    subst this
    intro e he
    simp at he
  · rw [h7]; exact .nil
theorem pairs_nil {P : Program} {w : World} {l : List DictEntry} (h : PySem.Pairs (mixKind P w) l []) : l = [] := by cases h; rfl
theorem conv_t (I : Inv X pins σ H s) {a : Addr} (h : H a = some (.dK [])) : Inv X pins σ (upd H a (KD X.prog X.w a [])) s := by
  obtain ⟨z, hd, vs, rel, o, es, ep, h4, h5, h6, h7, h8, h9⟩ := I.hok a _ h
  cases rel
  refine inv_anew I (by rw [h]; exact True.intro) ⟨o, h4⟩ (kd_new hd (Nat.zero_le _) ⟨o, es, ep, h4, h5, h6, pairs_nil h8, (fun x z => by simp at z), List.nodup_nil⟩)
theorem not_both {d : D} {k : Key} (h : dKey d = some k) (h' : (tkD d).isSome = true) : False := by
  cases d <;> simp [dKey] at h <;> simp [tkD] at h'
theorem not_both' {d : D} {k : NestedKey} (h : tkD d = some k) (h' : (dKey d).isSome = true) : False := by
  cases d <;> simp [tkD] at h <;> simp [dKey] at h'
/-- a key by its data -/
def isKey (x : D) : Bool := (dKey x).isSome || (tkD x).isSome
/-- a dict of the store that is asked by x: its entries by one kind of keys, at a heap that is the same but for the kind of an empty dict -/
theorem dict_open {T : List Addr} {S : Store} {n : Nat} {a : Addr} {kvs : List (D × D)} {x : D} (I : Inv X pins σ H s) (R : Rel (ctOf X T) φ S H) (ea : φ[n]? = some a) (es : (S : List O)[n]? = some (.dct kvs)) (hk : kindOk kvs x = true) :
    ∃ H1, Inv X pins σ H1 s ∧ Rel (ctOf X T) φ S H1 ∧ Keep H H1 ∧
      ((∃ k ks, dKey x = some k ∧ H1 a = some (.dK ks) ∧ Ents dKey X.K φ H1 ks kvs) ∨ (∃ k xs, dKey x = none ∧ tkD x = some k ∧ H1 a = some (KD X.prog X.w a xs) ∧ EntsT X.K φ H1 xs kvs)) := by
  have ro := R.obj _ _ _ ea es
  have kp : ∀ u : HO, Keep H (upd H a u) := fun u => ro.keep
  unfold kindOk at hk
  cases e : dKey x with
  | some k =>
    rw [e] at hk
    simp only at hk
    rcases ro with ⟨ks, hH, E⟩ | ⟨xs, hH, E⟩
    · exact ⟨H, I, R, Keep.refl _, .inl ⟨k, ks, rfl, hH, E⟩⟩
    · cases E with
      | nil =>
        have hw := R.write (u := .dK []) (o' := .dct []) ea es rfl (.inl ⟨[], upd_same, .nil⟩)
        have e2 : List.set S n (.dct []) = S := by
          apply List.ext_getElem?
          intro m
          by_cases hm : m = n
          · subst hm; rw [List.getElem?_set_self (List.getElem?_eq_some_iff.mp es).1, es]
          · rw [List.getElem?_set_ne (Ne.symm hm)]
        rw [e2] at hw
        exact ⟨_, conv_k I hH, hw, kp _, .inl ⟨k, [], rfl, upd_same, .nil⟩⟩
      | cons e1 _ _ _ _ =>
        simp only [List.all_cons, Bool.and_eq_true] at hk
        exact (not_both' e1 hk.1).elim
  | none =>
    rw [e] at hk
    simp only [Bool.and_eq_true] at hk
    obtain ⟨hk1, hk2⟩ := hk
    obtain ⟨k, ek⟩ := Option.isSome_iff_exists.mp hk1
    rcases ro with ⟨ks, hH, E⟩ | ⟨xs, hH, E⟩
    · cases E with
      | nil =>
        have hw := R.write (u := KD X.prog X.w a []) (o' := .dct []) ea es rfl (.inr ⟨[], upd_same, .nil⟩)
        have e2 : List.set S n (.dct []) = S := by
          apply List.ext_getElem?
          intro m
          by_cases hm : m = n
          · subst hm; rw [List.getElem?_set_self (List.getElem?_eq_some_iff.mp es).1, es]
          · rw [List.getElem?_set_ne (Ne.symm hm)]
        rw [e2] at hw
        exact ⟨_, conv_t I hH, hw, kp _, .inr ⟨k, [], rfl, ek, upd_same, .nil⟩⟩
      | cons e1 _ _ =>
        simp only [List.all_cons, Bool.and_eq_true] at hk2
        exact (not_both e1 hk2.1).elim
    · exact ⟨H, I, R, Keep.refl _, .inr ⟨k, xs, rfl, ek, hH, E⟩⟩
/-- what the look-up by data finds in the entries -/
theorem entsT_at {k : NestedKey} : ∀ {xs : List (NestedKey × Addr × Value)} {kvs : List (D × D)}, EntsT X.K φ H xs kvs →
    match (atKey xs k).map (·.2), (kvs.find? fun e => decide (tkD e.1 = some k)).map (·.2) with
    | some u, some d => ∃ v, RelV v u ∧ Rep X.K φ H v d
    | none, none => True
    | _, _ => False
  | _, _, .nil => True.intro
  | _, _, .cons (k := k0) (da := a0) (xs := xs) (ds := ds) e r rv r2 t => by
    have ih := entsT_at (k := k) t
    unfold atKey at ih ⊢
    by_cases hk : k0 = k
    · subst hk
      simp [e]
      exact ⟨_, rv, r2⟩
    · have h2 : ¬ (tkD a0 = some k) := by rw [e]; intro z; exact hk (Option.some.inj z)
      simp [hk, h2]
      simp at ih
      exact ih
theorem room_key {k : Nat} {A : Around} {P : Program} {w : World} (r : Room k A) : (nestedKind P w).room A.in1 := by
  have := r.un
  show A.units + 1 + 8 < cLine
  omega

theorem look_k {K : PySem.W.Frag} {k : Key} {ks : List (Key × V)} {kvs : List (D × D)} {dx : D} (E : Ents dKey K φ H ks kvs) (ek : dKey dx = some k) :
    (∃ v d, valV ks k = some v ∧ lookD kvs dx = some d ∧ Rep K φ H v d) ∨ (valV ks k = none ∧ lookD kvs dx = none) := by
  have q := ents_val (k := k) E
  unfold lookD
  rw [ek]
  simp only
  generalize (kvs.find? fun e => decide (dKey e.1 = some k)).map (·.2) = o2 at q
  generalize valV ks k = o1 at q
  cases o1 <;> cases o2 <;> simp at q
  · exact .inr ⟨rfl, rfl⟩
  · exact .inl ⟨_, _, rfl, rfl, q⟩
theorem look_t {k : NestedKey} {xs : List (NestedKey × Addr × Value)} {kvs : List (D × D)} {dx : D} (E : EntsT X.K φ H xs kvs) (en : dKey dx = none) (ek : tkD dx = some k) :
    (∃ p v d, atKey xs k = some p ∧ lookD kvs dx = some d ∧ RelV v p.2 ∧ Rep X.K φ H v d) ∨ (atKey xs k = none ∧ lookD kvs dx = none) := by
  have q := entsT_at (k := k) E
  unfold lookD
  rw [en, ek]
  simp only
  generalize (kvs.find? fun e => decide (tkD e.1 = some k)).map (·.2) = o2 at q
  generalize atKey xs k = o1 at q
  cases o1 <;> cases o2 <;> simp at q
  · exact .inr ⟨rfl, rfl⟩
  · obtain ⟨v, h1, h2⟩ := q
    exact .inl ⟨_, v, _, rfl, rfl, h1, h2⟩
/-- a tuple key's address -/
theorem key_ref {K : PySem.W.Frag} {k : NestedKey} {dx : D} {x : V} {u : Value} (ek : tkD dx = some k) (r : Rep K φ H x dx) (ru : RelV x u) : ∃ b, x = .ref b ∧ u = Value.ref b := by
  obtain ⟨ds, rfl, _, _⟩ := tkD_inv ek
  obtain ⟨b, xs, rfl, _, _⟩ := r.tup_inv
  exact ⟨b, rfl, ru⟩
end

section
variable {X : Cx} {T : List Addr} {m : Nat} {pins : List (Addr × Obj)} {σ : St} {H : Hp} {s : Shared} {φ : List Addr} {S : Store} {n : Nat} {x : V} {u : Value} {a : Addr} {kvs : List (D × D)} {dx : D}
theorem dict_in {E : Value → Shared → Prop} (hr : Room m X.A) (I : Inv X pins σ H s) (R : Rel (ctOf X T) φ S H) (ea : φ[n]? = some a) (es : (S : List O)[n]? = some (.dct kvs)) (r : Rep X.K φ H x dx) (ru : RelV x u) (hk : kindOk kvs dx = true) :
    wpAny (model X.prog X.w) X.A (compareOp .In u (.ref a)) (EP X pins σ (QE (ctOf X T) φ H S (.bl (lookD kvs dx).isSome))) E s := by
  obtain ⟨H1, I1, R1, K1, h⟩ := dict_open I R ea es hk
  have fin : ∀ b s', b = (lookD kvs dx).isSome → Inv X pins σ H1 s' → EP X pins σ (QE (ctOf X T) φ H S (.bl (lookD kvs dx).isSome)) (.bool b) s' := fun b s' eb I' => by
    subst eb
    exact ⟨.bl _, H1, I', rfl, φ, List.prefix_refl _, K1, R1, .bl _⟩
  rcases h with ⟨k, ks, ek, hH, E⟩ | ⟨k, xs, en, ek, hH, E⟩
  · obtain rfl : x = kV k := dKey_kV r ek
    refine d_in (hu_of hr) I1 (DGet.k hH) ru fun s' I' => fin _ s' ?_ I'
    rcases look_k E ek with ⟨v, d, e1, e2, _⟩ | ⟨e1, e2⟩ <;> rw [e1, e2] <;> rfl
  · obtain ⟨b, rfl, rfl⟩ := key_ref ek r ru
    obtain ⟨h1, h2, h3⟩ := kd_of I1 hH E
    refine wpAny_in_heap (room_key hr) (rep_key I1 (r.mono (List.prefix_refl _) K1) ek) h1 h3 (fin _ _ ?_ (I1.tok _))
    rcases look_t E en ek with ⟨p, v, d, e1, e2, _⟩ | ⟨e1, e2⟩ <;> rw [e1, e2] <;> rfl
theorem dict_notIn {E : Value → Shared → Prop} (hr : Room m X.A) (I : Inv X pins σ H s) (R : Rel (ctOf X T) φ S H) (ea : φ[n]? = some a) (es : (S : List O)[n]? = some (.dct kvs)) (r : Rep X.K φ H x dx) (ru : RelV x u) (hk : kindOk kvs dx = true) :
    wpAny (model X.prog X.w) X.A (compareOp .NotIn u (.ref a)) (EP X pins σ (QE (ctOf X T) φ H S (.bl (!(lookD kvs dx).isSome)))) E s := by
  obtain ⟨H1, I1, R1, K1, h⟩ := dict_open I R ea es hk
  have fin : ∀ b s', b = (!(lookD kvs dx).isSome) → Inv X pins σ H1 s' → EP X pins σ (QE (ctOf X T) φ H S (.bl (!(lookD kvs dx).isSome))) (.bool b) s' := fun b s' eb I' => by
    subst eb
    exact ⟨.bl _, H1, I', rfl, φ, List.prefix_refl _, K1, R1, .bl _⟩
  rcases h with ⟨k, ks, ek, hH, E⟩ | ⟨k, xs, en, ek, hH, E⟩
  · obtain rfl : x = kV k := dKey_kV r ek
    refine d_notIn (hu_of hr) I1 (DGet.k hH) ru fun s' I' => fin _ s' ?_ I'
    rcases look_k E ek with ⟨v, d, e1, e2, _⟩ | ⟨e1, e2⟩ <;> rw [e1, e2] <;> rfl
  · obtain ⟨b, rfl, rfl⟩ := key_ref ek r ru
    obtain ⟨h1, h2, h3⟩ := kd_of I1 hH E
    refine notIn_keyed (knd := nestedKind X.prog X.w) (room_key hr) (rep_key I1 (r.mono (List.prefix_refl _) K1) ek) h1 ⟨xs, h3, rfl⟩ (fin _ _ ?_ (I1.tok _))
    rw [valueAt_pairsH]
    rcases look_t E en ek with ⟨p, v, d, e1, e2, _⟩ | ⟨e1, e2⟩ <;> rw [e1, e2] <;> rfl
theorem dict_item {d : D} {E : Value → Shared → Prop} (hr : Room m X.A) (I : Inv X pins σ H s) (R : Rel (ctOf X T) φ S H) (ea : φ[n]? = some a) (es : (S : List O)[n]? = some (.dct kvs)) (r : Rep X.K φ H x dx) (ru : RelV x u) (hk : kindOk kvs dx = true)
    (el : lookD kvs dx = some d) : wpAny (model X.prog X.w) X.A (getItem (.ref a) u) (EP X pins σ (QE (ctOf X T) φ H S d)) E s := by
  obtain ⟨H1, I1, R1, K1, h⟩ := dict_open I R ea es hk
  rcases h with ⟨k, ks, ek, hH, E⟩ | ⟨k, xs, en, ek, hH, E⟩
  · obtain rfl : x = kV k := dKey_kV r ek
    rcases look_k E ek with ⟨v, d', e1, e2, r2⟩ | ⟨e1, e2⟩
    · rw [el] at e2; cases e2
      exact d_getItem (v := v) (hu_of hr) I1 (by rw [← e1]; exact DGet.k hH) ru fun w' s' I' rw' => ⟨v, H1, I', rw', φ, List.prefix_refl _, K1, R1, r2⟩
    · rw [el] at e2; cases e2
  · obtain ⟨b, rfl, rfl⟩ := key_ref ek r ru
    obtain ⟨h1, h2, h3⟩ := kd_of I1 hH E
    rcases look_t E en ek with ⟨p, v, d', e1, e2, rv, r2⟩ | ⟨e1, e2⟩
    · rw [el] at e2; cases e2
      exact wpAny_getItem_heap (room_key hr) (rep_key I1 (r.mono (List.prefix_refl _) K1) ek) h3 e1 ⟨v, H1, I1.tok _, rv, φ, List.prefix_refl _, K1, R1, r2⟩
    · rw [el] at e2; cases e2
/-- d.get(k, z) -/
theorem dict_get2 {y : V} {w : Value} {dz : D} {E : Value → Shared → Prop} (hr : Room m X.A) (I : Inv X pins σ H s) (R : Rel (ctOf X T) φ S H) (ea : φ[n]? = some a) (es : (S : List O)[n]? = some (.dct kvs)) (r : Rep X.K φ H x dx) (ru : RelV x u) (rz : Rep X.K φ H y dz) (rw_ : RelV y w) (hk : kindOk kvs dx = true) :
    wpAny (model X.prog X.w) X.A (call (.builtin "dict.get") [.ref a, u, w]) (EP X pins σ (QE (ctOf X T) φ H S ((lookD kvs dx).getD dz))) E s := by
  obtain ⟨H1, I1, R1, K1, h⟩ := dict_open I R ea es hk
  have rz1 := rz.mono (List.prefix_refl _) K1
  rcases h with ⟨k, ks, ek, hH, E⟩ | ⟨k, xs, en, ek, hH, E⟩
  · obtain rfl : x = kV k := dKey_kV r ek
    refine d_get2 (d := y) (hu_of hr) I1 (DGet.k hH) ru rw_ fun w' s' I' rw' => ?_
    rcases look_k E ek with ⟨v, d', e1, e2, r2⟩ | ⟨e1, e2⟩
    · rw [e1] at rw'; rw [e2]
      exact ⟨v, H1, I', rw', φ, List.prefix_refl _, K1, R1, r2⟩
    · rw [e1] at rw'; rw [e2]
      exact ⟨y, H1, I', rw', φ, List.prefix_refl _, K1, R1, rz1⟩
  · obtain ⟨b, rfl, rfl⟩ := key_ref ek r ru
    obtain ⟨h1, h2, h3⟩ := kd_of I1 hH E
    refine getOr_keyed (knd := nestedKind X.prog X.w) (room_key hr) (rep_key I1 (r.mono (List.prefix_refl _) K1) ek) h1 ⟨xs, h3, rfl⟩ ?_
    rw [valueAt_pairsH]
    rcases look_t E en ek with ⟨p, v, d', e1, e2, rv, r2⟩ | ⟨e1, e2⟩
    · rw [e1, e2]
      exact ⟨v, H1, I1.tok _, rv, φ, List.prefix_refl _, K1, R1, r2⟩
    · rw [e1, e2]
      exact ⟨y, H1, I1.tok _, rw_, φ, List.prefix_refl _, K1, R1, rz1⟩
/-- d.get(k) -/
theorem dict_get1 {E : Value → Shared → Prop} (hr : Room m X.A) (I : Inv X pins σ H s) (R : Rel (ctOf X T) φ S H) (ea : φ[n]? = some a) (es : (S : List O)[n]? = some (.dct kvs)) (r : Rep X.K φ H x dx) (ru : RelV x u) (hk : kindOk kvs dx = true) :
    wpAny (model X.prog X.w) X.A (call (.builtin "dict.get") [.ref a, u]) (EP X pins σ (QE (ctOf X T) φ H S ((lookD kvs dx).getD .non))) E s := by
  obtain ⟨H1, I1, R1, K1, h⟩ := dict_open I R ea es hk
  rcases h with ⟨k, ks, ek, hH, E⟩ | ⟨k, xs, en, ek, hH, E⟩
  · obtain rfl : x = kV k := dKey_kV r ek
    refine d_get1 (hu_of hr) I1 (DGet.k hH) ru fun w' s' I' rw' => ?_
    rcases look_k E ek with ⟨v, d', e1, e2, r2⟩ | ⟨e1, e2⟩
    · rw [e1] at rw'; rw [e2]
      exact ⟨v, H1, I', rw', φ, List.prefix_refl _, K1, R1, r2⟩
    · rw [e1] at rw'; rw [e2]
      exact ⟨.non, H1, I', rw', φ, List.prefix_refl _, K1, R1, .non⟩
  · obtain ⟨b, rfl, rfl⟩ := key_ref ek r ru
    obtain ⟨h1, h2, h3⟩ := kd_of I1 hH E
    refine get_keyed (knd := nestedKind X.prog X.w) (room_key hr) (rep_key I1 (r.mono (List.prefix_refl _) K1) ek) h1 ⟨xs, h3, rfl⟩ ?_
    rw [valueAt_pairsH]
    rcases look_t E en ek with ⟨p, v, d', e1, e2, rv, r2⟩ | ⟨e1, e2⟩
    · rw [e1, e2]
      exact ⟨v, H1, I1.tok _, rv, φ, List.prefix_refl _, K1, R1, r2⟩
    · rw [e1, e2]
      exact ⟨.non, H1, I1.tok _, rfl, φ, List.prefix_refl _, K1, R1, .non⟩
end
end RF

end

/-! ## RE -/
section
set_option maxRecDepth 100000
/-! Dicts by data: stores, removals. -/
namespace RF
open PySem L2

section
variable {κ : Type} [DecidableEq κ] {kf : D → Option κ} {K : PySem.W.Frag} {φ : List Addr} {H : Hp} {k : κ}
theorem Ents.any : ∀ {ks : List (κ × V)} {kvs : List (D × D)}, Ents kf K φ H ks kvs → (kvs.any fun e => decide (kf e.1 = some k)) = ks.any fun kv => decide (kv.1 = k)
  | _, _, .nil => rfl
  | _, _, .cons e r t => by
    rw [List.any_cons, List.any_cons, Ents.any t, e]
    congr 1
    simp
theorem Ents.map {v : V} {d : D} (r : Rep K φ H v d) {ks : List (κ × V)} {kvs : List (D × D)} (h : Ents kf K φ H ks kvs) :
    Ents kf K φ H (ks.map fun kv => if kv.1 = k then (kv.1, v) else kv) (kvs.map fun e => if kf e.1 = some k then (e.1, d) else e) := by
  induction h with
  | nil => exact .nil
  | @cons k0 v0 a0 b0 ks ds e r0 t ih =>
    rw [List.map_cons, List.map_cons]
    by_cases hk : k0 = k
    · subst hk
      simp only [e, if_true]
      exact .cons e r ih
    · have h2 : ¬ (kf a0 = some k) := by rw [e]; intro z; exact hk (Option.some.inj z)
      rw [if_neg hk, if_neg h2]
      exact .cons e r0 ih
theorem Ents.app {k0 : κ} {v : V} {a d : D} (e : kf a = some k0) (r : Rep K φ H v d) : ∀ {ks : List (κ × V)} {kvs : List (D × D)}, Ents kf K φ H ks kvs → Ents kf K φ H (ks ++ [(k0, v)]) (kvs ++ [(a, d)])
  | _, _, .nil => .cons e r .nil
  | _, _, .cons e0 r0 t => .cons e0 r0 (Ents.app e r t)
theorem Ents.put {v : V} {x d : D} (e : kf x = some k) (r : Rep K φ H v d) {ks : List (κ × V)} {kvs : List (D × D)} (E : Ents kf K φ H ks kvs) : Ents kf K φ H (putK ks k v) (putBy kf k x d kvs) := by
  unfold putK putBy
  rw [E.any]
  split
  · exact E.map r
  · exact E.app e r
theorem Ents.drop : ∀ {ks : List (κ × V)} {kvs : List (D × D)}, Ents kf K φ H ks kvs → Ents kf K φ H (dropK ks k) (kvs.filter fun e => decide (kf e.1 ≠ some k))
  | _, _, .nil => .nil
  | _, _, .cons (k := k0) (v := v0) (a := a0) (ks := ks) (ds := ds) e r0 t => by
    have ih := Ents.drop t
    unfold dropK at ih ⊢
    by_cases hk : k0 = k
    · subst hk
      simp [e]
      simpa using ih
    · have h2 : ¬ (kf a0 = some k) := by rw [e]; intro z; exact hk (Option.some.inj z)
      simp [hk, h2]
      exact .cons e r0 (by simpa using ih)
end
section
variable {K : PySem.W.Frag} {φ : List Addr} {H : Hp} {k : NestedKey}
theorem EntsT.any : ∀ {xs : List (NestedKey × Addr × Value)} {kvs : List (D × D)}, EntsT K φ H xs kvs → (kvs.any fun e => decide (tkD e.1 = some k)) = (atKey xs k).isSome
  | _, _, .nil => rfl
  | _, _, .cons (k := k0) (xs := xs) e r rv r2 t => by
    rw [List.any_cons, EntsT.any t, e]
    unfold atKey
    by_cases hk : k0 = k
    · subst hk; simp
    · have h2 : ¬ (some k0 = some k) := fun z => hk (Option.some.inj z)
      simp [hk]
theorem EntsT.map {u : Value} {v : V} {d : D} (ru : RelV v u) (r : Rep K φ H v d) {xs : List (NestedKey × Addr × Value)} {kvs : List (D × D)} (h : EntsT K φ H xs kvs) :
    EntsT K φ H (xs.map (putAt k u)) (kvs.map fun e => if tkD e.1 = some k then (e.1, d) else e) := by
  induction h with
  | nil => exact .nil
  | @cons k0 b0 u0 v0 a0 db0 xs ds e r0 rv0 r2 t ih =>
    rw [List.map_cons, List.map_cons]
    by_cases hk : k0 = k
    · subst hk
      have e1 : putAt k0 u (k0, b0, u0) = (k0, b0, u) := by unfold putAt; rw [if_pos rfl]
      rw [e1, if_pos e]
      exact .cons e r0 ru r ih
    · have h2 : ¬ (tkD a0 = some k) := by rw [e]; intro z; exact hk (Option.some.inj z)
      have e1 : putAt k u (k0, b0, u0) = (k0, b0, u0) := by unfold putAt; rw [if_neg hk]
      rw [e1, if_neg h2]
      exact .cons e r0 rv0 r2 ih
theorem EntsT.app {k0 : NestedKey} {b : Addr} {u : Value} {v : V} {a d : D} (e : tkD a = some k0) (rb : Rep K φ H (.ref b) a) (ru : RelV v u) (r : Rep K φ H v d) : ∀ {xs : List (NestedKey × Addr × Value)} {kvs : List (D × D)}, EntsT K φ H xs kvs → EntsT K φ H (xs ++ [(k0, b, u)]) (kvs ++ [(a, d)])
  | _, _, .nil => .cons e rb ru r .nil
  | _, _, .cons e0 r0 rv0 r2 t => .cons e0 r0 rv0 r2 (EntsT.app e rb ru r t)
theorem EntsT.put {b : Addr} {u : Value} {v : V} {x d : D} (e : tkD x = some k) (rb : Rep K φ H (.ref b) x) (ru : RelV v u) (r : Rep K φ H v d) {xs : List (NestedKey × Addr × Value)} {kvs : List (D × D)} (E : EntsT K φ H xs kvs) : EntsT K φ H (storedH xs k b u) (putBy tkD k x d kvs) := by
  unfold storedH putBy
  rw [E.any]
  split
  · exact E.map ru r
  · exact E.app e rb ru r
theorem EntsT.drop : ∀ {xs : List (NestedKey × Addr × Value)} {kvs : List (D × D)}, EntsT K φ H xs kvs → EntsT K φ H (withoutH xs k) (kvs.filter fun e => decide (tkD e.1 ≠ some k))
  | _, _, .nil => .nil
  | _, _, .cons (k := k0) (b := b0) (u := u0) (da := a0) (xs := xs) (ds := ds) e r0 rv0 r2 t => by
    have ih := EntsT.drop t
    unfold withoutH at ih ⊢
    by_cases hk : k0 = k
    · subst hk
      simp [e]
      simpa using ih
    · have h2 : ¬ (tkD a0 = some k) := by rw [e]; intro z; exact hk (Option.some.inj z)
      simp [hk, h2]
      exact .cons e r0 rv0 r2 (by simpa using ih)
theorem EntsT.length : ∀ {xs : List (NestedKey × Addr × Value)} {kvs : List (D × D)}, EntsT K φ H xs kvs → xs.length = kvs.length
  | _, _, .nil => rfl
  | _, _, .cons _ _ _ _ t => by simp [EntsT.length t]
end
theorem storedH_length (xs : List (NestedKey × Addr × Value)) (k : NestedKey) (a : Addr) (v : Value) : (storedH xs k a v).length ≤ xs.length + 1 := by
  unfold storedH
  split
  · simp
  · simp
theorem withoutH_length (xs : List (NestedKey × Addr × Value)) (k : NestedKey) : (withoutH xs k).length ≤ xs.length := by
  unfold withoutH; exact List.length_filter_le _ _

/-- what a store into the store leaves -/
def PU (X : Cx) (T : List Addr) (pins : List (Addr × Obj)) (σ : St) (φ : List Addr) (H : Hp) (S' : Store) (s' : Shared) : Prop := ∃ H', Inv X pins σ H' s' ∧ Keep H H' ∧ Rel (ctOf X T) φ S' H'
section
variable {X : Cx} {T : List Addr} {m : Nat} {pins : List (Addr × Obj)} {σ : St} {H : Hp} {s : Shared} {φ : List Addr} {S : Store} {n : Nat} {x y : V} {u w : Value} {a : Addr} {kvs : List (D × D)} {dx dz : D}
/-- d[k] = v -/
theorem dict_put {E : Value → Shared → Prop} (hr : Room m X.A) (I : Inv X pins σ H s) (R : Rel (ctOf X T) φ S H) (ea : φ[n]? = some a) (es : (S : List O)[n]? = some (.dct kvs)) (r : Rep X.K φ H x dx) (ru : RelV x u) (rz : Rep X.K φ H y dz) (rw_ : RelV y w) (hk : kindOk kvs dx = true) (hl : kvs.length ≤ most) :
    wpAny (model X.prog X.w) X.A (setItem (.ref a) u w) (fun _ s' => PU X T pins σ φ H (List.set S n (.dct (putD kvs dx dz))) s') E s := by
  obtain ⟨H1, I1, R1, K1, h⟩ := dict_open I R ea es hk
  have rz1 := rz.mono (List.prefix_refl _) K1
  have r1 := r.mono (List.prefix_refl _) K1
  have hz : kvs.length < sizeLine := Nat.lt_of_le_of_lt hl (by decide)
  rcases h with ⟨k, ks, ek, hH, E⟩ | ⟨k, xs, en, ek, hH, E⟩
  · obtain rfl : x = kV k := dKey_kV r ek
    refine d_setItem (hu_of hr) I1 (DPut.k (v := y) hH (by rw [E.length]; exact hz)) ru rw_ fun s' I' => ⟨_, I', K1.trans ?_, ?_⟩
    · exact Keep.store hH (by intro xs z; cases z)
    · have kp : Keep H1 (upd H1 a (.dK (putK ks k y))) := Keep.store hH (by intro xs z; cases z)
      refine R1.write ea es rfl (.inl ⟨_, upd_same, ?_⟩)
      unfold putD
      rw [ek]
      exact (E.put ek rz1).mono (List.prefix_refl _) kp
  · obtain ⟨b, rfl, rfl⟩ := key_ref ek r ru
    obtain ⟨h1, h2, h3⟩ := kd_of I1 hH E
    refine wpAny_setItem_heap (hsz := h2) (room_key hr) (rep_key I1 r1 ek) h3 fun h' hm' hs => ?_
    obtain ⟨oo, _, _, hoo, _⟩ := id hm'
    have I2 : Inv X pins σ (upd H1 a (KD X.prog X.w a (storedH xs k b w))) { s with heap := h', toks := s.toks + (nestedKind X.prog X.w).draws k } :=
      d_write I1 (by rw [hH]; exact True.intro) hs ⟨oo, hoo⟩ (kd_new h1 (by
        have q1 := storedH_length xs k b w
        have q2 := E.length
        omega) hm')
    have kp : Keep H1 (upd H1 a (KD X.prog X.w a (storedH xs k b w))) := Keep.store hH (by intro xs z; cases z)
    refine ⟨_, I2, K1.trans kp, R1.write ea es rfl (.inr ⟨_, upd_same, ?_⟩)⟩
    unfold putD
    rw [en, ek]
    exact (E.put ek r1 rw_ rz1).mono (List.prefix_refl _) kp
/-- del d[k], there -/
theorem dict_del {d : D} {E : Value → Shared → Prop} (hr : Room m X.A) (I : Inv X pins σ H s) (R : Rel (ctOf X T) φ S H) (ea : φ[n]? = some a) (es : (S : List O)[n]? = some (.dct kvs)) (r : Rep X.K φ H x dx) (ru : RelV x u) (hk : kindOk kvs dx = true) (el : lookD kvs dx = some d) :
    wpAny (model X.prog X.w) X.A (delItem (.ref a) u) (fun _ s' => PU X T pins σ φ H (List.set S n (.dct (dropD kvs dx))) s') E s := by
  obtain ⟨H1, I1, R1, K1, h⟩ := dict_open I R ea es hk
  have r1 := r.mono (List.prefix_refl _) K1
  rcases h with ⟨k, ks, ek, hH, E⟩ | ⟨k, xs, en, ek, hH, E⟩
  · obtain rfl : x = kV k := dKey_kV r ek
    have kp : Keep H1 (upd H1 a (.dK (dropK ks k))) := Keep.store hH (by intro xs z; cases z)
    rcases look_k E ek with ⟨v, d', e1, e2, _⟩ | ⟨e1, e2⟩
    · refine d_delItem I1 hH ru (by rw [e1]; rfl) fun s' I' => ⟨_, I', K1.trans kp, R1.write ea es rfl (.inl ⟨_, upd_same, ?_⟩)⟩
      unfold dropD
      rw [ek]
      exact (E.drop).mono (List.prefix_refl _) kp
    · rw [el] at e2; cases e2
  · obtain ⟨b, rfl, rfl⟩ := key_ref ek r ru
    obtain ⟨h1, h2, h3⟩ := kd_of I1 hH E
    rcases look_t E en ek with ⟨p, v, d', e1, e2, _⟩ | ⟨e1, e2⟩
    · refine wpAny_delItem_heap (hsz := h2) (room_key hr) (rep_key I1 r1 ek) h1 h3 e1 fun h' hm' hs => ?_
      obtain ⟨oo, _, _, hoo, _⟩ := id hm'
      have I2 : Inv X pins σ (upd H1 a (KD X.prog X.w a (withoutH xs k))) { s with heap := h', toks := s.toks + (nestedKind X.prog X.w).draws k } :=
        d_write I1 (by rw [hH]; exact True.intro) hs ⟨oo, hoo⟩ (kd_new h1 (Nat.le_trans (withoutH_length xs k) h2) hm')
      have kp : Keep H1 (upd H1 a (KD X.prog X.w a (withoutH xs k))) := Keep.store hH (by intro xs z; cases z)
      refine ⟨_, I2, K1.trans kp, R1.write ea es rfl (.inr ⟨_, upd_same, ?_⟩)⟩
      unfold dropD
      rw [en, ek]
      exact (E.drop).mono (List.prefix_refl _) kp
    · rw [el] at e2; cases e2
/-- d.pop(k), there -/
theorem dict_pop {d : D} {E : Value → Shared → Prop} (hr : Room m X.A) (I : Inv X pins σ H s) (R : Rel (ctOf X T) φ S H) (ea : φ[n]? = some a) (es : (S : List O)[n]? = some (.dct kvs)) (r : Rep X.K φ H x dx) (ru : RelV x u) (hk : kindOk kvs dx = true) (el : lookD kvs dx = some d) :
    wpAny (model X.prog X.w) X.A (call (.builtin "dict.pop") [.ref a, u]) (EP X pins σ (QE (ctOf X T) φ H (List.set S n (.dct (dropD kvs dx))) d)) E s := by
  obtain ⟨H1, I1, R1, K1, h⟩ := dict_open I R ea es hk
  have r1 := r.mono (List.prefix_refl _) K1
  rcases h with ⟨k, ks, ek, hH, E⟩ | ⟨k, xs, en, ek, hH, E⟩
  · obtain rfl : x = kV k := dKey_kV r ek
    have kp : Keep H1 (upd H1 a (.dK (dropK ks k))) := Keep.store hH (by intro xs z; cases z)
    rcases look_k E ek with ⟨v, d', e1, e2, r2⟩ | ⟨e1, e2⟩
    · rw [el] at e2; cases e2
      refine d_pop (more := []) I1 hH ru e1 (.inl rfl) fun w' s' I' rw' => ⟨v, _, I', rw', φ, List.prefix_refl _, K1.trans kp, R1.write ea es rfl (.inl ⟨_, upd_same, ?_⟩), r2.mono (List.prefix_refl _) kp⟩
      unfold dropD
      rw [ek]
      exact (E.drop).mono (List.prefix_refl _) kp
    · rw [el] at e2; cases e2
  · obtain ⟨b, rfl, rfl⟩ := key_ref ek r ru
    obtain ⟨h1, h2, h3⟩ := kd_of I1 hH E
    rcases look_t E en ek with ⟨p, v, d', e1, e2, rv, r2⟩ | ⟨e1, e2⟩
    · rw [el] at e2; cases e2
      refine call_pop_heap (more := []) (hsz := h2) (.inl rfl) (PySem.F.args_dict_pop_2 _ _) (room_key hr) (rep_key I1 r1 ek) h1 h3 e1 fun h' hm' hs => ?_
      obtain ⟨oo, _, _, hoo, _⟩ := id hm'
      have I2 : Inv X pins σ (upd H1 a (KD X.prog X.w a (withoutH xs k))) { s with heap := h', toks := s.toks + (nestedKind X.prog X.w).draws k } :=
        d_write I1 (by rw [hH]; exact True.intro) hs ⟨oo, hoo⟩ (kd_new h1 (Nat.le_trans (withoutH_length xs k) h2) hm')
      have kp : Keep H1 (upd H1 a (KD X.prog X.w a (withoutH xs k))) := Keep.store hH (by intro xs z; cases z)
      refine ⟨v, _, I2, rv, φ, List.prefix_refl _, K1.trans kp, R1.write ea es rfl (.inr ⟨_, upd_same, ?_⟩), r2.mono (List.prefix_refl _) kp⟩
      unfold dropD
      rw [en, ek]
      exact (E.drop).mono (List.prefix_refl _) kp
    · rw [el] at e2; cases e2
end
end RF

end

/-! ## RG -/
section
set_option maxRecDepth 100000
/-! Expressions by data: names, constants, truth, tests, displays, comparisons. -/
namespace RF
open PySem L2

/-! ### where one stands -/
structure Fn where
  name : Str
  params : List Str
  names : List Str
  st : Stmt
structure Cfg where
  fns : List Fn
  consts : List (Str × D)

def ScRel (sc sc' : Scope) : Prop := ∀ x k, sc.names.lookup x = some k → (k ≠ .free → sc'.names.lookup x = some k) ∧ (k = .free → sc'.names.lookup x = some .free ∨ sc'.names.lookup x = some .cell)
def visS (sc : Scope) (x : Str) : Bool := match sc.names.lookup x with
  | some .local => true
  | some .cell => true
  | some .free => true
  | _ => false
def locS (sc : Scope) (x : Str) : Bool := match sc.names.lookup x with
  | some .local => true
  | some .cell => true
  | _ => false
def glS (sc : Scope) (x : Str) : Bool := match sc.names.lookup x with
  | some .globalImplicit => true
  | _ => false
def okName (x : Str) : Bool := !(x == ("__debug__" : Str)) && !(x == ("__classdict__" : Str)) && !(x == ("__name__" : Str))
theorem okName_1 {x : Str} (h : okName x = true) : (x == ("__debug__" : Str)) = false := by
  unfold okName at h; simp only [Bool.and_eq_true, Bool.not_eq_true'] at h; exact h.1.1
theorem okName_2 {x : Str} (h : okName x = true) : (x == ("__classdict__" : Str)) = false := by
  unfold okName at h; simp only [Bool.and_eq_true, Bool.not_eq_true'] at h; exact h.1.2
theorem okName_3 {x : Str} (h : okName x = true) : x ≠ "__name__" := by
  unfold okName at h; simp only [Bool.and_eq_true, Bool.not_eq_true'] at h
  intro e; subst e; have := h.2; simp at this
theorem visS_vis {sc sc' : Scope} {x : Str} (r : ScRel sc sc') (h : visS sc x = true) : Vis sc' x := by
  unfold visS at h
  split at h
  · rename_i e; exact .inl ((r x _ e).1 (by decide))
  · rename_i e; exact .inr (.inl ((r x _ e).1 (by decide)))
  · rename_i e
    rcases (r x _ e).2 rfl with q | q
    · exact .inr (.inr q)
    · exact .inr (.inl q)
  · cases h
theorem locS_loc {sc sc' : Scope} {x : Str} (r : ScRel sc sc') (h : locS sc x = true) : Loc sc' x := by
  unfold locS at h
  split at h
  · rename_i e; exact .inl ((r x _ e).1 (by decide))
  · rename_i e; exact .inr ((r x _ e).1 (by decide))
  · cases h
theorem glS_gl {sc sc' : Scope} {x : Str} (r : ScRel sc sc') (h : glS sc x = true) : sc'.names.lookup x = some .globalImplicit := by
  unfold glS at h
  split at h
  · rename_i e; exact (r x _ e).1 (by decide)
  · cases h

def ixOf : List Str → Str → Option Nat
  | [], _ => none
  | y :: r, x => if y = x then some 0 else match ixOf r x with
    | some i => some (i + 1)
    | none => none
theorem ixOf_get : ∀ {N : List Str} {x : Str} {i : Nat}, ixOf N x = some i → N[i]? = some x
  | [], x, i, h => by simp [ixOf] at h
  | y :: r, x, i, h => by
    unfold ixOf at h
    split at h
    · rename_i e
      cases h; simp [e]
    · split at h
      · rename_i j e
        cases h
        simpa using ixOf_get e
      · cases h

/-- the built-ins that are called by name -/
def bltnNames : List Str := ["len", "sorted", "tuple", "list", "dict", "set", "range", "enumerate", "zip", "reversed", "min", "max", "abs", "int", "repr", "str", "sum", "any", "all", "isinstance", "bool"]
/-- what holds of a context, but for the calls -/
structure XB (C : Cfg) (N : List Str) (sc : Scope) (lv : Nat) (X : Cx) : Prop where
  hN : X.N = N
  nd : X.N.Nodup
  calm : X.calm = true
  sr : ScRel sc X.env.scope
  fnok : ∀ x, sc.names.lookup x = some .cell → X.fn x = true
  xe : X.xe = fun _ _ => False
  room : Room lv X.A
  mgc : ∀ x d, C.consts.lookup x = some d → ∃ v u, X.mg x = some u ∧ RelV v u ∧ ∀ φ H, Rep X.K φ H v d
  mgb : ∀ x ∈ bltnNames, X.mg x = none

section
variable {C : Cfg} {N : List Str} {sc : Scope} {lv : Nat} {X : Cx} {T : List Addr}

/-! ### names, constants -/
def nameE (C : Cfg) (N : List Str) (sc : Scope) (x : Str) : EV := fun σ S =>
  if okName x = true then
    if visS sc x = true then match ixOf N x with
      | some i => match (σ : List (Option D))[i]? with
        | some (some d) => some (d, S)
        | _ => none
      | none => none
    else if glS sc x = true then match C.consts.lookup x with
      | some d => some (d, S)
      | none => none
    else none
  else none
theorem PE.at {X : Cx} {e : Expr} {f : EV} (h : ∀ (pins : List (Addr × Obj)) (s : Shared) (σ : St) (H : Hp) (φ : List Addr) (σD : Slots) (S : Store) (d : D) (S' : Store), Inv X pins σ H s → Rel (ctOf X T) φ S H → SlotRel X.K φ H σD σ → f σD S = some (d, S') →
    wpAny (model X.prog X.w) X.A (eval e X.env) (EP X pins σ (QE (ctOf X T) φ H S' d)) X.xe s) : SE T X e f := by
  refine ⟨fun pins s σ H Q I ⟨φ, σD, S, d, S', R, L, e, q⟩ => ?_⟩
  exact thn (h pins s σ H φ σD S d S' I R L e) fun u s' ⟨v, H', I', rv, p⟩ => ⟨v, H', I', rv, q v H' p⟩
theorem se_run {e : Expr} {f : EV} (h : SE T X e f) {pins : List (Addr × Obj)} {s : Shared} {σ : St} {H : Hp} {φ : List Addr} {σD : Slots} {S : Store} {d : D} {S' : Store} (I : Inv X pins σ H s) (R : Rel (ctOf X T) φ S H) (L : SlotRel X.K φ H σD σ) (e1 : f σD S = some (d, S')) :
    wpAny (model X.prog X.w) X.A (eval e X.env) (EP X pins σ (QE (ctOf X T) φ H S' d)) X.xe s :=
  h.run pins s σ H _ I ⟨φ, σD, S, d, S', R, L, e1, fun _ _ q => q⟩
theorem se_name (xb : XB C N sc lv X) {x : Str} {pos : Pos} : SE T X (.Name x pos) (nameE C N sc x) := by
  refine PE.at fun pins s σ H φ σD S d S' I R L e => ?_
  unfold nameE at e
  split at e
  · rename_i ho
    split at e
    · rename_i hv
      split at e
      · rename_i i hi
        split at e
        · rename_i d' hd
          cases e
          obtain ⟨v, ev, rv⟩ := L.2 i d hd
          exact (pe_var (i := i) (by rw [xb.hN]; exact ixOf_get hi) (visS_vis xb.sr hv) (okName_1 ho) (okName_2 ho)).run pins s σ H _ I ⟨v, ev, .here R rv⟩
        · cases e
      · cases e
    · split at e
      · rename_i hg
        split at e
        · rename_i d' hd
          cases e
          obtain ⟨v, u, hm, ru, rr⟩ := xb.mgc x d hd
          exact (pe_glob (glS_gl xb.sr hg) hm ru (okName_1 ho)).run pins s σ H _ I (.here R (rr φ H))
        · cases e
      · cases e
  · cases e
def constD : Const → Option D
  | .int i => some (.int i)
  | .bool b => some (.bl b)
  | .none => some .non
  | .str x => some (.str x)
  | _ => none
def constE (c : Const) : EV := fun _ S => match constD c with
  | some d => some (d, S)
  | none => none
theorem se_const {c : Const} {k : Nat} {pos : Pos} : SE T X (.Constant c k pos) (constE c) := by
  refine PE.at fun pins s σ H φ σD S d S' I R L e => ?_
  unfold constE at e
  cases c with
  | int i => cases e; exact pe_int.run pins s σ H _ I (.here R (.int i))
  | bool b => cases e; exact pe_bl.run pins s σ H _ I (.here R (.bl b))
  | none => cases e; exact pe_non.run pins s σ H _ I (.here R .non)
  | str x => cases e; exact pe_str.run pins s σ H _ I (.here R (.str x))
  | _ => simp only [constD] at e; cases e

/-! ### truth -/
def truD (S : Store) : D → Option Bool
  | .non => some false
  | .bl b => some b
  | .int i => some (i != 0)
  | .str x => if x.length ≤ most then some ((x.length : Int) != 0) else none
  | .tup ds => some (!ds.isEmpty)
  | .loc n => match (S : List O)[n]? with
    | some (.lst ds) => some (!ds.isEmpty)
    | some (.fro ds) => some (!ds.isEmpty)
    | _ => none
theorem Reps.isEmpty {K : PySem.W.Frag} {φ : List Addr} {H : Hp} {xs : List V} {ds : List D} (r : Reps K φ H xs ds) : xs.isEmpty = ds.isEmpty := by cases r <;> rfl
theorem tru_of {c : Ct} {φ : List Addr} {S : Store} {H : Hp} {v : V} {d : D} {b : Bool} (R : Rel c φ S H) (r : Rep c.K φ H v d) (h : truD S d = some b) : TruV c.K v H b := by
  cases d with
  | non => rw [r.non_inv]; cases h; rfl
  | bl b' => rw [r.bl_inv]; cases h; rfl
  | int i => rw [r.int_inv]; cases h; rfl
  | str x =>
    rw [r.str_inv]
    simp only [truD] at h
    split at h
    · rename_i hl; cases h; exact ⟨most_line hl, rfl⟩
    · cases h
  | tup ds =>
    obtain ⟨a, xs, rfl, t, rs⟩ := r.tup_inv
    cases h
    exact .inr (.inl ⟨xs, t.sq, by rw [rs.isEmpty]⟩)
  | loc n =>
    obtain ⟨a, rfl, ea⟩ := r.loc_inv
    simp only [truD] at h
    split at h
    · rename_i ds e
      cases h
      obtain ⟨xs, hx, rs⟩ := R.obj _ _ _ ea e
      exact .inl ⟨xs, SqL.of hx, by rw [rs.isEmpty]⟩
    · rename_i ds e
      cases h
      obtain ⟨xs, hx, rs⟩ := (R.obj _ _ _ ea e).fro
      exact .inl ⟨xs, hx, by rw [rs.isEmpty]⟩
    · cases h

/-! ### tests: by the truth of the value; not, and, or as tests -/
abbrev BV := Slots → Store → Option (Bool × Store)
def truE (f : EV) : BV := fun σ S => match f σ S with
  | some (d, S1) => match truD S1 d with
    | some b => some (b, S1)
    | none => none
  | none => none
/-- how a test asks its expression: its value's truth -/
def PlainT (X : Cx) (e : Expr) : Prop := ∀ whole, isTrue e X.env whole = (do let v ← whole; standAt e.pos; holding [v] (truthy v))
theorem st_val {e : Expr} {f : EV} (h : SE T X e f) (he : PlainT X e) : ST T X e (truE f) :=
  PT.weak (pt_truth h he) fun σ H Q ⟨φ, σD, S, b, S', R, L, e1, q⟩ => by
    unfold truE at e1
    split at e1
    · rename_i d S1 e2
      split at e1
      · rename_i b' e3
        cases e1
        exact ⟨φ, σD, S, d, S', R, L, e2, fun v H' ⟨φ', h1, k1, R1, r1⟩ => ⟨b, tru_of R1 r1 e3, q b H' ⟨φ', h1, k1, R1, rfl⟩⟩⟩
      · cases e1
    · cases e1
def notB (f : BV) : BV := fun σ S => match f σ S with
  | some (b, S1) => some (!b, S1)
  | none => none
theorem st_not {e : Expr} {f : BV} {pos : Pos} (h : ST T X e f) : ST T X (.UnaryOp .Not e pos) (notB f) :=
  PT.weak (pt_not h) fun σ H Q ⟨φ, σD, S, b, S', R, L, e1, q⟩ => by
    unfold notB at e1
    split at e1
    · rename_i b' S1 e2
      cases e1
      exact ⟨φ, σD, S, b', S', R, L, e2, fun c H' ⟨φ', h1, k1, R1, r1⟩ => by subst r1; exact q _ H' ⟨φ', h1, k1, R1, rfl⟩⟩
    · cases e1
def andB (f g : BV) : BV := fun σ S => match f σ S with
  | some (true, S1) => g σ S1
  | some (false, S1) => some (false, S1)
  | none => none
def orB (f g : BV) : BV := fun σ S => match f σ S with
  | some (true, S1) => some (true, S1)
  | some (false, S1) => g σ S1
  | none => none
abbrev SW (T : List Addr) (X : Cx) (e : Expr) (f : BV) : Prop := PW X e (tT (ctOf X T) f)
theorem PW.weak {X : Cx} {e : Expr} {t u : TT} (h : PW X e t) (w : ∀ σ H Q, u σ H Q → t σ H Q) : PW X e u := ⟨fun wh pins s σ H Q I q => h.run wh pins s σ H Q I (w σ H Q q)⟩
theorem sw_and1 {a : Expr} {f : BV} {pos : Pos} (h : ST T X a f) : SW T X (.BoolOp .And [a] pos) f := pw_and1 h
theorem sw_or1 {a : Expr} {f : BV} {pos : Pos} (h : ST T X a f) : SW T X (.BoolOp .Or [a] pos) f := pw_or1 h
theorem sw_and {a b : Expr} {rest : List Expr} {f g : BV} {pos : Pos} (h : ST T X a f) (h2 : SW T X (.BoolOp .And (b :: rest) pos) g) : SW T X (.BoolOp .And (a :: b :: rest) pos) (andB f g) :=
  PW.weak (pw_and h h2) fun σ H Q ⟨φ, σD, S, b, S', R, L, e1, q⟩ => by
    unfold andB at e1
    split at e1
    · rename_i S1 e2
      exact ⟨φ, σD, S, true, S1, R, L, e2, fun c H' ⟨φ', h1, k1, R1, r1⟩ => by
        subst r1
        rw [if_pos rfl]
        exact ⟨φ', σD, S1, b, S', R1, L.mono h1 k1, e1, fun c H2 p => q c H2 (p.later h1 k1)⟩⟩
    · rename_i S1 e2
      cases e1
      exact ⟨φ, σD, S, false, S', R, L, e2, fun c H' p => by
        have hc : c = false := by obtain ⟨_, _, _, _, r1⟩ := p; exact r1
        subst hc
        exact iteF (q _ _ p)⟩
    · cases e1
theorem sw_or {a b : Expr} {rest : List Expr} {f g : BV} {pos : Pos} (h : ST T X a f) (h2 : SW T X (.BoolOp .Or (b :: rest) pos) g) : SW T X (.BoolOp .Or (a :: b :: rest) pos) (orB f g) :=
  PW.weak (pw_or h h2) fun σ H Q ⟨φ, σD, S, b, S', R, L, e1, q⟩ => by
    unfold orB at e1
    split at e1
    · rename_i S1 e2
      cases e1
      exact ⟨φ, σD, S, true, S', R, L, e2, fun c H' p => by
        have hc : c = true := by obtain ⟨_, _, _, _, r1⟩ := p; exact r1
        subst hc
        exact iteT (q _ _ p)⟩
    · rename_i S1 e2
      exact ⟨φ, σD, S, false, S1, R, L, e2, fun c H' ⟨φ', h1, k1, R1, r1⟩ => by
        subst r1
        rw [if_neg Bool.false_ne_true]
        exact ⟨φ', σD, S1, b, S', R1, L.mono h1 k1, e1, fun c H2 p => q c H2 (p.later h1 k1)⟩⟩
    · cases e1

/-! ### and, or, not as values -/
def andE (f g : EV) : EV := fun σ S => match f σ S with
  | some (d, S1) => match truD S1 d with
    | some true => g σ S1
    | some false => some (d, S1)
    | none => none
  | none => none
def orE (f g : EV) : EV := fun σ S => match f σ S with
  | some (d, S1) => match truD S1 d with
    | some true => some (d, S1)
    | some false => g σ S1
    | none => none
  | none => none
def notE (f : EV) : EV := fun σ S => match f σ S with
  | some (d, S1) => match truD S1 d with
    | some b => some (.bl (!b), S1)
    | none => none
  | none => none
theorem se_one {op} {a : Expr} {f : EV} {pos : Pos} (h : SE T X a f) : SE T X (.BoolOp op [a] pos) f := pe_one h
theorem se_and {a b : Expr} {rest : List Expr} {f g : EV} {pos : Pos} (h : SE T X a f) (h2 : SE T X (.BoolOp .And (b :: rest) pos) g) : SE T X (.BoolOp .And (a :: b :: rest) pos) (andE f g) :=
  PE.weak (pe_andT h h2) fun σ H Q ⟨φ, σD, S, d, S', R, L, e1, q⟩ => by
    unfold andE at e1
    split at e1
    · rename_i d1 S1 e2
      refine ⟨φ, σD, S, d1, S1, R, L, e2, fun v H' p => ?_⟩
      obtain ⟨φ', h1, k1, R1, r1⟩ := id p
      split at e1
      · rename_i e3
        refine ⟨true, tru_of R1 r1 e3, ?_⟩
        rw [if_pos rfl]
        exact ⟨φ', σD, S1, d, S', R1, L.mono h1 k1, e1, fun c H2 p => q c H2 (p.later h1 k1)⟩
      · rename_i e3
        cases e1
        refine ⟨false, tru_of R1 r1 e3, ?_⟩
        rw [if_neg Bool.false_ne_true]
        exact q _ _ p
      · cases e1
    · cases e1
theorem se_or {a b : Expr} {rest : List Expr} {f g : EV} {pos : Pos} (h : SE T X a f) (h2 : SE T X (.BoolOp .Or (b :: rest) pos) g) : SE T X (.BoolOp .Or (a :: b :: rest) pos) (orE f g) :=
  PE.weak (pe_orT h h2) fun σ H Q ⟨φ, σD, S, d, S', R, L, e1, q⟩ => by
    unfold orE at e1
    split at e1
    · rename_i d1 S1 e2
      refine ⟨φ, σD, S, d1, S1, R, L, e2, fun v H' p => ?_⟩
      obtain ⟨φ', h1, k1, R1, r1⟩ := id p
      split at e1
      · rename_i e3
        cases e1
        refine ⟨true, tru_of R1 r1 e3, ?_⟩
        rw [if_pos rfl]
        exact q _ _ p
      · rename_i e3
        refine ⟨false, tru_of R1 r1 e3, ?_⟩
        rw [if_neg Bool.false_ne_true]
        exact ⟨φ', σD, S1, d, S', R1, L.mono h1 k1, e1, fun c H2 p => q c H2 (p.later h1 k1)⟩
      · cases e1
    · cases e1
theorem se_not {a : Expr} {f : EV} {pos : Pos} (h : SE T X a f) : SE T X (.UnaryOp .Not a pos) (notE f) :=
  PE.weak (pe_notT h) fun σ H Q ⟨φ, σD, S, d, S', R, L, e1, q⟩ => by
    unfold notE at e1
    split at e1
    · rename_i d1 S1 e2
      split at e1
      · rename_i b e3
        cases e1
        exact ⟨φ, σD, S, d1, S', R, L, e2, fun v H' ⟨φ', h1, k1, R1, r1⟩ => ⟨b, tru_of R1 r1 e3, q _ _ ⟨φ', h1, k1, R1, .bl _⟩⟩⟩
      · cases e1
    · cases e1
def negE (f : EV) : EV := fun σ S => match f σ S with
  | some (.int i, S1) => some (.int (-i), S1)
  | _ => none
theorem se_neg {a : Expr} {f : EV} {pos : Pos} (h : SE T X a f) : SE T X (.UnaryOp .USub a pos) (negE f) :=
  PE.weak (pe_un un_neg h) fun σ H Q ⟨φ, σD, S, d, S', R, L, e1, q⟩ => by
    unfold negE at e1
    split at e1
    · rename_i i S1 e2
      cases e1
      exact ⟨φ, σD, S, _, S', R, L, e2, fun v H' ⟨φ', h1, k1, R1, r1⟩ => ⟨i, r1.int_inv, q _ _ ⟨φ', h1, k1, R1, .int _⟩⟩⟩
    · cases e1
/-- a if t else b -/
def ifE (t : BV) (f g : EV) : EV := fun σ S => match t σ S with
  | some (true, S1) => f σ S1
  | some (false, S1) => g σ S1
  | none => none
theorem se_if {c a b : Expr} {t : BV} {f g : EV} {pos : Pos} (hc : ST T X c t) (ha : SE T X a f) (hb : SE T X b g) : SE T X (.IfExp c a b pos) (ifE t f g) :=
  PE.weak (pe_ifExp hc ha hb) fun σ H Q ⟨φ, σD, S, d, S', R, L, e1, q⟩ => by
    unfold ifE at e1
    split at e1
    · rename_i S1 e2
      refine ⟨φ, σD, S, true, S1, R, L, e2, fun c H' ⟨φ', h1, k1, R1, r1⟩ => ?_⟩
      subst r1
      rw [if_pos rfl]
      exact ⟨φ', σD, S1, d, S', R1, L.mono h1 k1, e1, fun c H2 p => q c H2 (p.later h1 k1)⟩
    · rename_i S1 e2
      refine ⟨φ, σD, S, false, S1, R, L, e2, fun c H' ⟨φ', h1, k1, R1, r1⟩ => ?_⟩
      subst r1
      rw [if_neg Bool.false_ne_true]
      exact ⟨φ', σD, S1, d, S', R1, L.mono h1 k1, e1, fun c H2 p => q c H2 (p.later h1 k1)⟩
    · cases e1

/-! ### argument lists, displays -/
def nilA : AV := fun _ S => some ([], S)
def consA (f : EV) (g : AV) : AV := fun σ S => match f σ S with
  | some (d, S1) => match g σ S1 with
    | some (ds, S2) => some (d :: ds, S2)
    | none => none
  | none => none
theorem sa_nil : SA T X [] nilA := PA.weak pa_nil fun σ H Q ⟨φ, σD, S, ds, S', R, L, e1, q⟩ => by
  cases e1
  exact q [] H ⟨φ, List.prefix_refl _, Keep.refl _, R, .nil⟩
theorem sa_cons {e : Expr} {es : List Expr} {f : EV} {g : AV} (h : SE T X e f) (h2 : SA T X es g) (hs : starEach (e :: es) X.env = (false, eval e X.env) :: starEach es X.env) : SA T X (e :: es) (consA f g) :=
  PA.weak (pa_cons h h2 hs) fun σ H Q ⟨φ, σD, S, ds, S', R, L, e1, q⟩ => by
    unfold consA at e1
    split at e1
    · rename_i d S1 e2
      split at e1
      · rename_i ds' S2 e3
        cases e1
        refine ⟨φ, σD, S, d, S1, R, L, e2, fun v H' ⟨φ', h1, k1, R1, r1⟩ => ?_⟩
        refine ⟨φ', σD, S1, ds', S', R1, L.mono h1 k1, e3, fun vs H2 ⟨φ2, h2, k2, R2, r2⟩ => ?_⟩
        exact q _ _ ⟨φ2, h1.trans h2, k1.trans k2, R2, .cons (r1.mono h2 k2) r2⟩
      · cases e1
    · cases e1
def tupE (g : AV) : EV := fun σ S => match g σ S with
  | some (ds, S1) => if ds.length ≤ most then some (.tup ds, S1) else none
  | none => none
def lstE (g : AV) : EV := fun σ S => match g σ S with
  | some (ds, S1) => if ds.length ≤ most then some (.loc (List.length S1), S1 ++ [.lst ds]) else none
  | none => none
theorem se_tup {es : List Expr} {g : AV} {k : Nat} {pos : Pos} (h : SA T X es g) : SE T X (.Tuple es k pos) (tupE g) :=
  PE.weak (pe_tup h) fun σ H Q ⟨φ, σD, S, d, S', R, L, e1, q⟩ => by
    unfold tupE at e1
    split at e1
    · rename_i ds S1 e2
      split at e1
      · rename_i hl
        cases e1
        exact ⟨φ, σD, S, ds, S', R, L, e2, fun vs H' ⟨φ', h1, k1, R1, r1⟩ => ⟨by rw [r1.length]; exact most_line hl, fun p hp => q _ _ ((QE.tup R1 r1 hp).later h1 k1)⟩⟩
      · cases e1
    · cases e1
theorem se_lst {es : List Expr} {g : AV} {pos : Pos} (h : SA T X es g) : SE T X (.List es pos) (lstE g) :=
  PE.weak (pe_lst h) fun σ H Q ⟨φ, σD, S, d, S', R, L, e1, q⟩ => by
    unfold lstE at e1
    split at e1
    · rename_i ds S1 e2
      split at e1
      · rename_i hl
        cases e1
        exact ⟨φ, σD, S, ds, S1, R, L, e2, fun vs H' ⟨φ', h1, k1, R1, r1⟩ => ⟨by rw [r1.length]; exact most_line hl, fun p hp => q _ _ ((QE.lst R1 r1 hp).later h1 k1)⟩⟩
      · cases e1
    · cases e1
end
end RF

end

/-! ## RH -/
section
set_option maxRecDepth 100000
/-! Comparisons, subscripts, slices by data. -/
namespace RF
open PySem PySem.Spec PyProof.Rows L2

section
variable {X : Cx} {T : List Addr} {m : Nat}
def flipB (neg b : Bool) : Bool := if neg then !b else b
def inD (neg : Bool) : G2 := fun x y S => match y with
  | .tup ds => match py S x, toPys S 39 ds with
    | some p, some ps => some (.bl (flipB neg (ps.any fun z => PyData.eqv z p)), S)
    | _, _ => none
  | .loc n => match (S : List O)[n]? with
    | some (.dct kvs) => if kindOk kvs x = true then some (.bl (flipB neg (lookD kvs x).isSome), S) else none
    | some (.lst ds) => match py S x, toPys S 39 ds with
      | some p, some ps => some (.bl (flipB neg (ps.any fun z => PyData.eqv z p)), S)
      | _, _ => none
    | some (.fro ds) => match py S x, toPys S 39 ds with
      | some p, some ps => some (.bl (flipB neg (ps.any fun z => PyData.eqv z p)), S)
      | _, _ => none
    | none => none
  | _ => none
theorem room65 {A : Around} (r : Room m A) : A.units + 65 < cLine := by have := r.un; omega
theorem room64 {A : Around} (r : Room m A) : A.units + 64 < cLine := by have := r.un; omega
theorem units_in {A : Around} {ps : List PyData} {p : PyData} (r : Room m A) (h : PyData.depthAll ps ≤ 39) : A.units + 1 + min (PyData.depthAll ps) p.depth < cLine := by have := r.un; omega
theorem pys_shaped {S : Store} {ds : List D} {ps : List PyData} (h : toPys S 39 ds = some ps) : PyData.canLayAll0 ps = true ∧ PyData.depthAll ps ≤ 39 := toPys_lay S 39 ds ps h
theorem shaped_list {ps : List PyData} (h : PyData.canLayAll0 ps = true ∧ PyData.depthAll ps ≤ 39) : SeqAt.shaped (.list ps) = true := by
  unfold SeqAt.shaped
  have : (PyData.list ps).canLay0 = PyData.canLayAll0 ps := rfl
  rw [this, h.1]
  have h2 : (PyData.list ps).depth = PyData.depthAll ps + 1 := rfl
  rw [h2, decide_eq_true (by omega)]
  rfl
theorem does_in (hr : Room m X.A) : DoesOp T X (compareOp .In) (inD false) := by
  intro pins s σ H φ S x y v u dx dy d S' I R r1 r2 rx ry e
  unfold inD at e
  split at e
  · rename_i ds
    split at e
    · rename_i p ps h1 h2
      cases e
      obtain ⟨a, xs, rfl, t, rs⟩ := r2.tup_inv
      obtain ⟨as, q1⟩ := Dp.reads I p x v (toPy_dp R _ _ _ _ r1 h1) rx
      obtain ⟨bs, q2⟩ := Dp.reads I (.tuple ps) (.ref a) u (.tup t.sq (toPys_dp R _ _ _ _ rs h2)) ry
      obtain ⟨l1, l2⟩ := pys_shaped h2
      exact SeqAt.in_tuple_reads q2 q1 l1 (SeqAt.canLay_of_shaped (py_shaped h1)) (units_in hr l2) ⟨.bl _, H, I, rfl, .here R (.bl _)⟩
    · cases e
  · rename_i n
    obtain ⟨a, rfl, ea⟩ := r2.loc_inv
    obtain rfl : u = Value.ref a := ry
    split at e
    · rename_i kvs h
      split at e
      · rename_i hk
        cases e
        exact dict_in hr I R ea h r1 rx hk
      · cases e
    · rename_i ds h
      split at e
      · rename_i p ps h1 h2
        cases e
        obtain ⟨xs, hx, rs⟩ := R.obj _ _ _ ea h
        exact op_inD (room65 hr) pins s σ H x (.ref a) v _ _ I rx rfl ⟨p, ps, toPy_dp R _ _ _ _ r1 h1, .lst (SqL.of hx) (toPys_dp R _ _ _ _ rs h2), py_shaped h1, shaped_list (pys_shaped h2), .here R (.bl _)⟩
      · cases e
    · rename_i ds h
      split at e
      · rename_i p ps h1 h2
        cases e
        obtain ⟨xs, hx, rs⟩ := (R.obj _ _ _ ea h).fro
        exact op_inD (room65 hr) pins s σ H x (.ref a) v _ _ I rx rfl ⟨p, ps, toPy_dp R _ _ _ _ r1 h1, .lst hx (toPys_dp R _ _ _ _ rs h2), py_shaped h1, shaped_list (pys_shaped h2), .here R (.bl _)⟩
      · cases e
    · cases e
  · cases e
theorem does_notIn (hr : Room m X.A) : DoesOp T X (compareOp .NotIn) (inD true) := by
  intro pins s σ H φ S x y v u dx dy d S' I R r1 r2 rx ry e
  unfold inD at e
  split at e
  · rename_i ds
    split at e
    · rename_i p ps h1 h2
      cases e
      obtain ⟨a, xs, rfl, t, rs⟩ := r2.tup_inv
      obtain ⟨as, q1⟩ := Dp.reads I p x v (toPy_dp R _ _ _ _ r1 h1) rx
      obtain ⟨bs, q2⟩ := Dp.reads I (.tuple ps) (.ref a) u (.tup t.sq (toPys_dp R _ _ _ _ rs h2)) ry
      obtain ⟨l1, l2⟩ := pys_shaped h2
      exact SeqAt.notIn_tuple_reads q2 q1 l1 (SeqAt.canLay_of_shaped (py_shaped h1)) (units_in hr l2) ⟨.bl _, H, I, rfl, .here R (.bl _)⟩
    · cases e
  · rename_i n
    obtain ⟨a, rfl, ea⟩ := r2.loc_inv
    obtain rfl : u = Value.ref a := ry
    split at e
    · rename_i kvs h
      split at e
      · rename_i hk
        cases e
        exact dict_notIn hr I R ea h r1 rx hk
      · cases e
    · rename_i ds h
      split at e
      · rename_i p ps h1 h2
        cases e
        obtain ⟨xs, hx, rs⟩ := R.obj _ _ _ ea h
        exact op_notInD (room65 hr) pins s σ H x (.ref a) v _ _ I rx rfl ⟨p, ps, toPy_dp R _ _ _ _ r1 h1, .lst (SqL.of hx) (toPys_dp R _ _ _ _ rs h2), py_shaped h1, shaped_list (pys_shaped h2), .here R (.bl _)⟩
      · cases e
    · rename_i ds h
      split at e
      · rename_i p ps h1 h2
        cases e
        obtain ⟨xs, hx, rs⟩ := (R.obj _ _ _ ea h).fro
        exact op_notInD (room65 hr) pins s σ H x (.ref a) v _ _ I rx rfl ⟨p, ps, toPy_dp R _ _ _ _ r1 h1, .lst hx (toPys_dp R _ _ _ _ rs h2), py_shaped h1, shaped_list (pys_shaped h2), .here R (.bl _)⟩
      · cases e
    · cases e
  · cases e
/-- is None, is not None (the right one is None) -/
def isD (neg : Bool) : G2 := fun x y S => match y with
  | .non => match x with
    | .non => some (.bl (!neg), S)
    | .loc _ => none
    | _ => some (.bl neg, S)
  | _ => none
theorem does_is {c : Ct} : Does2 c (fun x y H Q => y = .non ∧ Q (.bl (decide (x = .non))) H) (isD false) := by
  intro φ S H x y dx dy d S' Q R rx ry e q
  unfold isD at e
  split at e
  · refine ⟨ry.non_inv, ?_⟩
    split at e
    · cases e; rw [rx.non_inv]; exact q _ _ (.here R (.bl _))
    · cases e
    · rename_i h1 h2
      cases e
      have : decide (x = V.non) = false := decide_eq_false fun z => by
        subst z
        cases rx
        exact h1 rfl
      rw [this]; exact q _ _ (.here R (.bl _))
  · cases e
theorem does_isNot {c : Ct} : Does2 c (fun x y H Q => y = .non ∧ Q (.bl (!decide (x = .non))) H) (isD true) := by
  intro φ S H x y dx dy d S' Q R rx ry e q
  unfold isD at e
  split at e
  · refine ⟨ry.non_inv, ?_⟩
    split at e
    · cases e; rw [rx.non_inv]; exact q _ _ (.here R (.bl _))
    · cases e
    · rename_i h1 h2
      cases e
      have : decide (x = V.non) = false := decide_eq_false fun z => by
        subst z
        cases rx
        exact h1 rfl
      rw [this]; exact q _ _ (.here R (.bl _))
  · cases e

/-- the comparisons of data -/
def cmpD : CmpOp → G2
  | .Eq => eqD false
  | .NotEq => eqD true
  | .Lt => intD (fun _ _ => true) fun i j => .bl (decide (i < j))
  | .LtE => intD (fun _ _ => true) fun i j => .bl (decide (i ≤ j))
  | .Gt => intD (fun _ _ => true) fun i j => .bl (decide (j < i))
  | .GtE => intD (fun _ _ => true) fun i j => .bl (decide (j ≤ i))
  | .In => inD false
  | .NotIn => inD true
  | .Is => isD false
  | .IsNot => isD true
theorem does_cmp (hr : Room m X.A) (op : CmpOp) : DoesOp T X (compareOp op) (cmpD op) := by
  cases op
  case Eq => exact doesOp (op_eqD (room64 hr)) does_eq
  case NotEq => exact doesOp (op_neD (room64 hr)) does_ne
  case Lt => exact doesOp op_lt does_intB
  case LtE => exact doesOp op_le does_intB
  case Gt => exact doesOp op_gt does_intB
  case GtE => exact doesOp op_ge does_intB
  case In => exact does_in hr
  case NotIn => exact does_notIn hr
  case Is => exact doesOp op_isN does_is
  case IsNot => exact doesOp op_notN does_isNot
def notSet : Expr → Bool
  | .Set .. => false
  | _ => true
theorem behind_of {op : CmpOp} {b : Expr} (h : notSet b = true) : behindInMarks op b = false := by
  cases b <;> first | rfl | cases h
theorem se_cmpD (hr : Room m X.A) {a b : Expr} {fa fb : EV} {op : CmpOp} {pos : Pos} (hb : notSet b = true) (ha : SE T X a fa) (hb' : SE T X b fb) : SE T X (.Compare a [op] [b] pos) (bind2 (cmpD op) fa fb) :=
  se_cmp (opR_of (does_cmp hr op)) does_rG (behind_of hb) ha hb'
/-- a < b < c -/
def chainE (g g' : G2) (fa fb fc : EV) : EV := fun σ S => match fa σ S with
  | some (x, S1) => match fb σ S1 with
    | some (y, S2) => match g x y S2 with
      | some (.bl true, S3) => match fc σ S3 with
        | some (z, S4) => g' y z S4
        | none => none
      | some (.bl false, S3) => some (.bl false, S3)
      | _ => none
    | none => none
  | none => none
theorem se_chain (hr : Room m X.A) {a b c : Expr} {fa fb fc : EV} {op op' : CmpOp} {pos : Pos} (hm : lastMarks [op, op'] [b, c] = false) (ho : DoesOp T X (compareOp op) (cmpD op)) (ha : SE T X a fa) (hb : SE T X b fb) (hc : SE T X c fc)
    (rule : PE X (.Compare a [op, op'] [b, c] pos) (tChain (rG (ctOf X T) (cmpD op)) (rG (ctOf X T) (cmpD op')) (tE (ctOf X T) fa) (tE (ctOf X T) fb) (tE (ctOf X T) fc))) : SE T X (.Compare a [op, op'] [b, c] pos) (chainE (cmpD op) (cmpD op') fa fb fc) :=
  PE.weak rule fun σ H Q ⟨φ, σD, S, d, S', R, L, e, q⟩ => by
    unfold chainE at e
    split at e
    · rename_i x S1 e1
      split at e
      · rename_i y S2 e2
        refine ⟨φ, σD, S, x, S1, R, L, e1, fun v H1 ⟨φ1, h1, k1, R1, r1⟩ => ?_⟩
        refine ⟨φ1, σD, S1, y, S2, R1, L.mono h1 k1, e2, fun u H2 ⟨φ2, h2, k2, R2, r2⟩ => ?_⟩
        split at e
        · rename_i S3 e3
          split at e
          · rename_i z S4 e4
            refine ⟨φ2, S2, x, y, _, S3, R2, r1.mono h2 k2, r2, e3, fun w H3 ⟨φ3, h3, k3, R3, r3⟩ => ⟨true, r3.bl_inv, ?_⟩⟩
            rw [if_pos rfl]
            refine ⟨φ3, σD, S3, z, S4, R3, ((L.mono h1 k1).mono h2 k2).mono h3 k3, e4, fun w' H4 ⟨φ4, h4, k4, R4, r4⟩ => ?_⟩
            exact ⟨φ4, S4, y, z, d, S', R4, (r2.mono h3 k3).mono h4 k4, r4, e, fun v' H' p => q v' H' (p.later (((h1.trans h2).trans h3).trans h4) (((k1.trans k2).trans k3).trans k4))⟩
          · cases e
        · rename_i S3 e3
          cases e
          refine ⟨φ2, S2, x, y, _, S', R2, r1.mono h2 k2, r2, e3, fun w H3 p => ?_⟩
          have hw := p
          obtain ⟨φ3, h3, k3, R3, r3⟩ := p
          refine ⟨false, r3.bl_inv, ?_⟩
          exact iteF (q _ _ ⟨φ3, (h1.trans h2).trans h3, (k1.trans k2).trans k3, R3, .bl false⟩)
        · cases e
      · cases e
    · cases e

/-! ### subscripts -/
theorem atI_reps {K : PySem.W.Frag} {φ : List Addr} {H : Hp} {xs : List V} {ds : List D} {i : Int} {d : D} (r : Reps K φ H xs ds) (h : atI ds i = some d) : ∃ v, atI xs i = some v ∧ Rep K φ H v d := by
  unfold atI at h ⊢
  rw [r.length]
  cases e : ixN ds.length i with
  | none => rw [e] at h; cases h
  | some j =>
    rw [e] at h
    exact r.get' h
def ixD : G2 := fun x y S => match x with
  | .tup ds => match y with
    | .int i => match atI ds i with
      | some d => some (d, S)
      | none => none
    | _ => none
  | .str z => match y with
    | .int i => if z.length ≤ most then match atI z.cps.toList i with
      | some c => some (.str ⟨#[c]⟩, S)
      | none => none
      else none
    | _ => none
  | .loc n => match (S : List O)[n]? with
    | some (.dct kvs) => if kindOk kvs y = true then match lookD kvs y with
      | some d => some (d, S)
      | none => none
      else none
    | some (.lst ds) => match y with
      | .int i => match atI ds i with
        | some d => some (d, S)
        | none => none
      | _ => none
    | some (.fro ds) => match y with
      | .int i => match atI ds i with
        | some d => some (d, S)
        | none => none
      | _ => none
    | none => none
  | _ => none
def notSlice : Expr → Bool
  | .Slice .. => false
  | .Tuple .. => false
  | _ => true
theorem plainIx_of {b : Expr} (h : notSlice b = true) : PlainIx b := by
  intro o i
  cases b <;> first | rfl | cases h
theorem ix_seq_run {a b : Expr} {pins : List (Addr × Obj)} {s : Shared} {σ : L2.St} {H : Hp} {φ : List Addr} {S S' : Store} {x y : V} {v u : Value} {dx dy d : D} (hb : notSlice b = true) (I : Inv X pins σ H s) (R : Rel (ctOf X T) φ S H) (r1 : Rep X.K φ H x dx) (r2 : Rep X.K φ H y dy) (rx : RelV x v) (ry : RelV y u)
    (e : ixD dx dy S = some (d, S')) (hn : ∀ n kvs, dx = .loc n → (S : List O)[n]? ≠ some (.dct kvs)) : wpAny (model X.prog X.w) X.A (subscriptTail a b v u) (EP X pins σ (QE (ctOf X T) φ H S' d)) X.xe s := by
  have hp := plainIx_of hb v u
  unfold ixD at e
  split at e
  · rename_i ds
    split at e
    · rename_i i
      split at e
      · rename_i d' hd'
        cases e
        obtain ⟨a', xs, rfl, t, rs⟩ := r1.tup_inv
        obtain ⟨z, hz, rz⟩ := atI_reps rs hd'
        exact ix_tup a b pins s σ H _ _ v u _ I rx ry ⟨a', xs, i, z, rfl, r2.int_inv, t.sq, hz, QE.here R rz⟩ hp
      · cases e
    · cases e
  · rename_i z
    split at e
    · rename_i i
      split at e
      · rename_i hz
        split at e
        · rename_i c hc
          cases e
          exact ix_str a b pins s σ H _ _ v u _ I rx ry ⟨z, i, c, r1.str_inv, r2.int_inv, most_line hz, hc, QE.here R (.str _)⟩ hp
        · cases e
      · cases e
    · cases e
  · rename_i n
    obtain ⟨a', rfl, ea⟩ := r1.loc_inv
    split at e
    · rename_i kvs h; exact absurd h (hn n kvs rfl)
    · rename_i ds h
      split at e
      · rename_i i
        split at e
        · rename_i d' hd'
          cases e
          obtain ⟨xs, hx, rs⟩ := R.obj _ _ _ ea h
          obtain ⟨z, hz, rz⟩ := atI_reps rs hd'
          exact ix_list a b pins s σ H _ _ v u _ I rx ry ⟨a', xs, i, z, rfl, r2.int_inv, SqL.of hx, hz, QE.here R rz⟩ hp
        · cases e
      · cases e
    · rename_i ds h
      split at e
      · rename_i i
        split at e
        · rename_i d' hd'
          cases e
          obtain ⟨xs, hx, rs⟩ := (R.obj _ _ _ ea h).fro
          obtain ⟨z, hz, rz⟩ := atI_reps rs hd'
          exact ix_list a b pins s σ H _ _ v u _ I rx ry ⟨a', xs, i, z, rfl, r2.int_inv, hx, hz, QE.here R rz⟩ hp
        · cases e
      · cases e
    · cases e
  · cases e
theorem se_ix (hr : Room m X.A) {a b : Expr} {fa fb : EV} {pos : Pos} (hb : notSlice b = true) (ha : SE T X a fa) (hb' : SE T X b fb) : SE T X (.Subscript a b pos) (bind2 ixD fa fb) := by
  refine PE.at fun pins s σ H φ σD S d S' I R L e => ?_
  unfold bind2 at e
  split at e
  · rename_i x S1 e1
    split at e
    · rename_i y S2 e2
      by_cases hd : ∃ n kvs, x = .loc n ∧ (S2 : List O)[n]? = some (.dct kvs)
      · obtain ⟨n, kvs, rfl, hk⟩ := hd
        simp only [ixD, hk] at e
        split at e
        · rename_i hkk
          split at e
          · rename_i d' hl
            cases e
            refine subD_of PySem.F.slot_dict_getitem.lookup (plainIx_of hb) (thn (se_run ha I R L e1) fun v s1 ⟨x', H1, I1, rx, φ1, h1, k1, R1, r1⟩ => ?_)
            refine thn (se_run hb' I1 R1 (L.mono h1 k1) e2) fun u s2 ⟨y', H2, I2, ry, φ2, h2, k2, R2, r2⟩ => ?_
            obtain ⟨a', rfl, ea⟩ := r1.loc_inv
            obtain rfl : v = Value.ref a' := rx
            have ea2 : φ2[n]? = some a' := pre_get h2 ea
            have tyd : s2.TypeIs (.ref a') "dict" := by
              rcases R2.obj _ _ _ ea2 hk with ⟨ks, hH, _⟩ | ⟨xs, hH, E⟩
              · obtain ⟨_, _, vs, _, dd⟩ := dk_of I2.hok hH
                exact dd.typeIs
              · obtain ⟨_, _, dd⟩ := kd_of I2 hH E
                exact dd.typeIs
            refine ⟨tyd, ?_⟩
            exact thn (dict_item hr I2 R2 ea2 hk r2 ry hkk hl) fun w s3 ⟨z, H3, I3, rz, p⟩ => ⟨z, H3, I3, rz, p.later (h1.trans h2) (k1.trans k2)⟩
          · cases e
        · cases e
      · refine Subscript_ (thn (se_run ha I R L e1) fun v s1 ⟨x', H1, I1, rx, φ1, h1, k1, R1, r1⟩ => ?_)
        refine thn (se_run hb' I1 R1 (L.mono h1 k1) e2) fun u s2 ⟨y', H2, I2, ry, φ2, h2, k2, R2, r2⟩ => ?_
        exact thn (ix_seq_run hb I2 R2 (r1.mono h2 k2) r2 rx ry e fun n kvs ex hk => hd ⟨n, kvs, ex, hk⟩) fun w s3 ⟨z, H3, I3, rz, p⟩ => ⟨z, H3, I3, rz, p.later (h1.trans h2) (k1.trans k2)⟩
    · cases e
  · cases e

/-! ### slices -/
/-- a part of a slice -/
def cutL {α : Type} (xs : List α) (lo hi : Option Int) : List α := (xs.drop (HT.sIx xs.length 0 lo)).take (HT.sIx xs.length xs.length hi - HT.sIx xs.length 0 lo)
theorem cutV_cutL (xs : List V) (lo hi : Option Int) : cutV xs lo hi = cutL xs lo hi := rfl
theorem cut_reps {K : PySem.W.Frag} {φ : List Addr} {H : Hp} {xs : List V} {ds : List D} (r : Reps K φ H xs ds) (lo hi : Option Int) : Reps K φ H (cutV xs lo hi) (cutL ds lo hi) := by
  unfold cutV cutL
  rw [r.length]
  exact (r.drop _).take _
abbrev PV := Slots → Store → Option (Option Int × Store)
def noP : PV := fun _ S => some (none, S)
def someP (f : EV) : PV := fun σ S => match f σ S with
  | some (.int i, S1) => some (some i, S1)
  | _ => none
def tO (c : Ct) (f : PV) : TO := fun σ H Q => ∃ φ σD S i S', Rel c φ S H ∧ SlotRel c.K φ H σD σ ∧ f σD S = some (i, S') ∧ ∀ j H', Post c φ H S' (fun _ => j = i) H' → Q j H'
theorem PO.weak {o : Option Expr} {t u : TO} (h : PO X o t) (w : ∀ σ H Q, u σ H Q → t σ H Q) : PO X o u := ⟨fun pins s σ H Q I q => h.run pins s σ H Q I (w σ H Q q)⟩
theorem so_none : PO X none (tO (ctOf X T) noP) := PO.weak po_none fun σ H Q ⟨φ, σD, S, i, S', R, L, e, q⟩ => by
  cases e
  exact q _ _ ⟨φ, List.prefix_refl _, Keep.refl _, R, rfl⟩
theorem so_some {e : Expr} {f : EV} (h : SE T X e f) : PO X (some e) (tO (ctOf X T) (someP f)) := PO.weak (po_some h) fun σ H Q ⟨φ, σD, S, i, S', R, L, e, q⟩ => by
  unfold someP at e
  split at e
  · rename_i j S1 e1
    cases e
    exact ⟨φ, σD, S, _, S', R, L, e1, fun v H' ⟨φ', h1, k1, R1, r1⟩ => ⟨j, r1.int_inv, q _ _ ⟨φ', h1, k1, R1, rfl⟩⟩⟩
  · cases e
def sliceD (x : D) (lo hi : Option Int) (S : Store) : Option (D × Store) := match x with
  | .tup ds => some (.tup (cutL ds lo hi), S)
  | .loc n => match (S : List O)[n]? with
    | some (.lst ds) => some (.loc (List.length S), S ++ [.lst (cutL ds lo hi)])
    | some (.fro ds) => some (.loc (List.length S), S ++ [.lst (cutL ds lo hi)])
    | _ => none
  | .str z => if z.length ≤ most then some (.str (cutS z lo hi), S) else none
  | _ => none
def sliceE (f : EV) (lo hi : PV) : EV := fun σ S => match f σ S with
  | some (x, S1) => match lo σ S1 with
    | some (l, S2) => match hi σ S2 with
      | some (h, S3) => sliceD x l h S3
      | none => none
    | none => none
  | none => none
theorem se_slice {a : Expr} {lo hi : Option Expr} {f : EV} {fl fh : PV} {p2 pos : Pos} (ha : SE T X a f) (hl : PO X lo (tO (ctOf X T) fl)) (hh : PO X hi (tO (ctOf X T) fh)) : SE T X (.Subscript a (.Slice lo hi none p2) pos) (sliceE f fl fh) :=
  PE.weak (pe_slice (SlR.or sl_list (SlR.or sl_tupA sl_str)) ha hl hh) fun σ H Q ⟨φ, σD, S, d, S', R, L, e, q⟩ => by
    unfold sliceE at e
    split at e
    · rename_i x S1 e1
      split at e
      · rename_i l S2 e2
        split at e
        · rename_i h S3 e3
          refine ⟨φ, σD, S, x, S1, R, L, e1, fun v H1 ⟨φ1, h1, k1, R1, r1⟩ => ?_⟩
          refine ⟨φ1, σD, S1, l, S2, R1, L.mono h1 k1, e2, fun l' H2 ⟨φ2, h2, k2, R2, el⟩ => ?_⟩
          refine ⟨φ2, σD, S2, h, S3, R2, (L.mono h1 k1).mono h2 k2, e3, fun h' H3 ⟨φ3, h3, k3, R3, eh⟩ => ?_⟩
          subst el eh
          have rr := (r1.mono h2 k2).mono h3 k3
          have q' : ∀ v H', QE (ctOf X T) φ3 H3 S' d v H' → Q v H' := fun v H' p => q v H' (p.later ((h1.trans h2).trans h3) ((k1.trans k2).trans k3))
          unfold sliceD at e
          split at e
          · cases e
            obtain ⟨a', xs, rfl, t, rs⟩ := rr.tup_inv
            refine .inr (.inl ⟨a', xs, rfl, t.sq, fun hw => ?_, fun hw p hp => q' _ _ (.tup R3 (cut_reps rs _ _) hp)⟩)
            refine q' _ _ (.here R3 (.tup t ?_))
            have hc : ∀ ds : List D, xs.length = ds.length → cutL ds l' h' = ds := fun ds el => by
              unfold cutL
              rw [← el, hw.1, hw.2, el]
              simp
            rw [hc _ rs.length]; exact rs
          · rename_i n
            obtain ⟨a', rfl, ea⟩ := rr.loc_inv
            split at e
            · rename_i ds hd
              cases e
              obtain ⟨xs, hx, rs⟩ := R3.obj _ _ _ ea hd
              exact .inl ⟨a', xs, rfl, SqL.of hx, fun p hp => q' _ _ (.lst R3 (cut_reps rs _ _) hp)⟩
            · rename_i ds hd
              cases e
              obtain ⟨xs, hx, rs⟩ := (R3.obj _ _ _ ea hd).fro
              exact .inl ⟨a', xs, rfl, hx, fun p hp => q' _ _ (.lst R3 (cut_reps rs _ _) hp)⟩
            · cases e
          · split at e
            · rename_i hz
              cases e
              exact .inr (.inr ⟨_, rr.str_inv, most_line hz, q' _ _ (.here R3 (.str _))⟩)
            · cases e
          · cases e
        · cases e
      · cases e
    · cases e
def revE (f : EV) : EV := fun σ S => match f σ S with
  | some (.loc n, S1) => match (S1 : List O)[n]? with
    | some (.lst ds) => some (.loc (List.length S1), S1 ++ [.lst ds.reverse])
    | some (.fro ds) => some (.loc (List.length S1), S1 ++ [.lst ds.reverse])
    | _ => none
  | _ => none
theorem se_rev {a : Expr} {f : EV} {k : Nat} {p1 p2 p3 pos : Pos} (ha : SE T X a f) : SE T X (.Subscript a (.Slice none none (some (.UnaryOp .USub (.Constant (.int 1) k p1) p2)) p3) pos) (revE f) :=
  PE.weak (pe_revL ha) fun σ H Q ⟨φ, σD, S, d, S', R, L, e, q⟩ => by
    unfold revE at e
    split at e
    · rename_i n S1 e1
      refine ⟨φ, σD, S, _, S1, R, L, e1, fun v H1 ⟨φ1, h1, k1, R1, r1⟩ => ?_⟩
      obtain ⟨a', rfl, ea⟩ := r1.loc_inv
      split at e
      · rename_i ds hd
        cases e
        obtain ⟨xs, hx, rs⟩ := R1.obj _ _ _ ea hd
        exact ⟨a', xs, rfl, SqL.of hx, fun p hp => q _ _ ((QE.lst R1 rs.reverse hp).later h1 k1)⟩
      · rename_i ds hd
        cases e
        obtain ⟨xs, hx, rs⟩ := (R1.obj _ _ _ ea hd).fro
        exact ⟨a', xs, rfl, hx, fun p hp => q _ _ ((QE.lst R1 rs.reverse hp).later h1 k1)⟩
      · cases e
    · cases e
end
end RF

end

/-! ## RI -/
section
set_option maxRecDepth 100000
/-! Calls of built-ins by data. -/
namespace RF
open PySem PySem.Spec PyProof.Rows L2

abbrev GC := List D → Store → Option (D × Store)
/-- a call of a value that is known, by data -/
def DoesCall (T : List Addr) (X : Cx) (f : Value) (g : GC) : Prop :=
  ∀ (pins : List (Addr × Obj)) (s : Shared) (σ : L2.St) (H : Hp) (φ : List Addr) (S : Store) (xs : List V) (us : List Value) (ds : List D) (d : D) (S' : Store), Inv X pins σ H s → Rel (ctOf X T) φ S H → Reps X.K φ H xs ds → Vals xs us → g ds S = some (d, S') →
    wpAny (model X.prog X.w) X.A (call f us) (EP X pins σ (QE (ctOf X T) φ H S' d)) X.xe s
def rC (c : Ct) (g : GC) : List V → Hp → VK → Prop := fun xs H Q => ∃ φ S ds d S', Rel c φ S H ∧ Reps c.K φ H xs ds ∧ g ds S = some (d, S') ∧ ∀ v H', QE c φ H S' d v H' → Q v H'
def callE (g : GC) (fa : AV) : EV := fun σ S => match fa σ S with
  | some (ds, S1) => g ds S1
  | none => none
def orG (g h : GC) : GC := fun ds S => match g ds S with
  | some r => some r
  | none => h ds S
section
variable {X : Cx} {T : List Addr} {f : Value} {g h : GC} {r : List V → Hp → VK → Prop}
theorem DoesCall.callR (dc : DoesCall T X f g) : CallR X f (rC (ctOf X T) g) := by
  intro pins s σ H xs us Q I rs ⟨φ, S, ds, d, S', R, rr, e, q⟩
  exact thn (dc pins s σ H φ S xs us ds d S' I R rr rs e) fun w s' ⟨z, H', I', rz, p⟩ => ⟨z, H', I', rz, q z H' p⟩
theorem doesCall (hc : CallR X f r) (w : ∀ (φ : List Addr) (S : Store) (H : Hp) (xs : List V) (ds : List D) (d : D) (S' : Store) (Q : VK), Rel (ctOf X T) φ S H → Reps X.K φ H xs ds → g ds S = some (d, S') → (∀ v H', QE (ctOf X T) φ H S' d v H' → Q v H') → r xs H Q) : DoesCall T X f g := by
  intro pins s σ H φ S xs us ds d S' I R rr rs e
  exact hc pins s σ H xs us _ I rs (w φ S H xs ds d S' _ R rr e fun _ _ q => q)
theorem DoesCall.or (a : DoesCall T X f g) (b : DoesCall T X f h) : DoesCall T X f (orG g h) := by
  intro pins s σ H φ S xs us ds d S' I R rr rs e
  unfold orG at e
  split at e
  · rename_i r0 e0
    cases e
    exact a pins s σ H φ S xs us ds d S' I R rr rs e0
  · exact b pins s σ H φ S xs us ds d S' I R rr rs e
theorem tA_call {fa : AV} {σ : L2.St} {H : Hp} {Q : VK} (q : tE (ctOf X T) (callE g fa) σ H Q) : tCB (rC (ctOf X T) g) (tA (ctOf X T) fa) σ H Q := by
  obtain ⟨φ, σD, S, d, S', R, L, e, q⟩ := q
  unfold callE at e
  split at e
  · rename_i ds S1 e1
    refine ⟨φ, σD, S, ds, S1, R, L, e1, fun vs H' ⟨φ', h1, k1, R1, r1⟩ => ?_⟩
    exact ⟨φ', S1, ds, d, S', R1, r1, e, fun v H2 p => q v H2 (p.later h1 k1)⟩
  · cases e

/-! ### single things: len, abs, int, min, max .. -/
/-- the items of a list or tuple -/
def seqD (S : Store) : D → Option (List D)
  | .tup ds => some ds
  | .loc n => match (S : List O)[n]? with
    | some (.lst ds) => some ds
    | some (.fro ds) => some ds
    | _ => none
  | _ => none
theorem seqD_rep {c : Ct} {φ : List Addr} {S : Store} {H : Hp} {v : V} {d : D} {ds : List D} (R : Rel c φ S H) (r : Rep c.K φ H v d) (e : seqD S d = some ds) : ∃ a xs, v = .ref a ∧ (SqL c.K H a xs ∨ SqT c.K H a xs) ∧ Reps c.K φ H xs ds := by
  unfold seqD at e
  split at e
  · cases e
    obtain ⟨a, xs, rfl, t, rs⟩ := r.tup_inv
    exact ⟨a, xs, rfl, .inr t.sq, rs⟩
  · rename_i n
    obtain ⟨a, rfl, ea⟩ := r.loc_inv
    split at e
    · rename_i h
      cases e
      obtain ⟨xs, hx, rs⟩ := R.obj _ _ _ ea h
      exact ⟨a, xs, rfl, .inl (SqL.of hx), rs⟩
    · rename_i h
      cases e
      obtain ⟨xs, hx, rs⟩ := (R.obj _ _ _ ea h).fro
      exact ⟨a, xs, rfl, .inl hx, rs⟩
    · cases e
  · cases e
/-- the items of a list -/
def lstD (S : Store) : D → Option (List D)
  | .loc n => match (S : List O)[n]? with
    | some (.lst ds) => some ds
    | some (.fro ds) => some ds
    | _ => none
  | _ => none
theorem lstD_rep {c : Ct} {φ : List Addr} {S : Store} {H : Hp} {v : V} {d : D} {ds : List D} (R : Rel c φ S H) (r : Rep c.K φ H v d) (e : lstD S d = some ds) : ∃ a xs, v = .ref a ∧ SqL c.K H a xs ∧ Reps c.K φ H xs ds := by
  unfold lstD at e
  split at e
  · rename_i n
    obtain ⟨a, rfl, ea⟩ := r.loc_inv
    split at e
    · rename_i h
      cases e
      obtain ⟨xs, hx, rs⟩ := R.obj _ _ _ ea h
      exact ⟨a, xs, rfl, SqL.of hx, rs⟩
    · rename_i h
      cases e
      obtain ⟨xs, hx, rs⟩ := (R.obj _ _ _ ea h).fro
      exact ⟨a, xs, rfl, hx, rs⟩
    · cases e
  · cases e
theorem reps1 {K : PySem.W.Frag} {φ : List Addr} {H : Hp} {xs : List V} {d : D} (r : Reps K φ H xs [d]) : ∃ v, xs = [v] ∧ Rep K φ H v d := by
  cases r with
  | cons r t => cases t; exact ⟨_, rfl, r⟩
theorem reps2 {K : PySem.W.Frag} {φ : List Addr} {H : Hp} {xs : List V} {d e : D} (r : Reps K φ H xs [d, e]) : ∃ v u, xs = [v, u] ∧ Rep K φ H v d ∧ Rep K φ H u e := by
  cases r with
  | cons r t => cases t with
    | cons r2 t2 => cases t2; exact ⟨_, _, rfl, r, r2⟩

def lenG : GC := fun ds S => match ds with
  | [.str z] => if z.length ≤ most then some (.int z.length, S) else none
  | [d] => match seqD S d with
    | some xs => some (.int xs.length, S)
    | none => match d with
      | .loc n => match (S : List O)[n]? with
        | some (.dct kvs) => some (.int kvs.length, S)
        | _ => none
      | _ => none
  | _ => none
theorem len_kd {pins : List (Addr × Obj)} {s : Shared} {σ : L2.St} {H : Hp} {φ : List Addr} {a : Addr} {xs : List (NestedKey × Addr × Value)} {kvs : List (D × D)} {Q : VK} (I : Inv X pins σ H s) (hH : H a = some (KD X.prog X.w a xs)) (E : EntsT X.K φ H xs kvs) (q : Q (.int kvs.length) H) :
    wpAny (model X.prog X.w) X.A (call (.builtin "len") [.ref a]) (EP X pins σ Q) X.xe s := by
  obtain ⟨h1, h2, h3⟩ := kd_of I hH E
  refine call_len_dictH h1 h3 (by rw [sizeLine_eq] at h2; omega) ?_
  rw [E.length]
  exact ⟨.int kvs.length, H, I.tok _, ⟨_, rfl⟩, q⟩
theorem does_len : DoesCall T X (.builtin "len") lenG := by
  intro pins s σ H φ S xs us ds d S' I R rr rs e
  unfold lenG at e
  split at e
  · rename_i z
    split at e
    · rename_i hz
      cases e
      obtain ⟨v, rfl, r1⟩ := reps1 rr
      exact call_len_str pins s σ H _ us _ I rs ⟨z, by rw [r1.str_inv], most_line hz, .here R (.int _)⟩
    · cases e
  · rename_i d' hd'
    obtain ⟨v, rfl, r1⟩ := reps1 rr
    split at e
    · rename_i ys hy
      cases e
      obtain ⟨a, zs, rfl, hq, rz⟩ := seqD_rep R r1 hy
      refine call_len_seq pins s σ H _ us _ I rs ⟨a, zs, rfl, hq, ?_⟩
      rw [rz.length]
      exact .here R (.int _)
    · split at e
      · rename_i n
        obtain ⟨a, rfl, ea⟩ := r1.loc_inv
        split at e
        · rename_i kvs hk
          cases e
          obtain ⟨u, rfl, ru⟩ := vals1 rs
          obtain rfl : u = Value.ref a := ru
          rcases R.obj _ _ _ ea hk with ⟨ks, hH, E⟩ | ⟨ks, hH, E⟩
          · refine call_lenD pins s σ H _ _ _ I rs ⟨a, ks, rfl, hH, ?_⟩
            rw [E.length]
            exact .here R (.int _)
          · exact len_kd I hH E (.here R (.int _))
        · cases e
      · cases e
  · cases e
def tupleG : GC := fun ds S => match ds with
  | [d] => match seqD S d with
    | some xs => some (.tup xs, S)
    | none => none
  | _ => none
theorem does_tuple : DoesCall T X (.type "tuple") tupleG := by
  refine doesCall call_tuple_of fun φ S H xs ds d S' Q R rr e q => ?_
  unfold tupleG at e
  split at e
  · rename_i d'
    obtain ⟨v, rfl, r1⟩ := reps1 rr
    split at e
    · rename_i ys hy
      cases e
      unfold seqD at hy
      split at hy
      · cases hy
        obtain ⟨a, xs, rfl, t, rs⟩ := r1.tup_inv
        exact ⟨a, xs, rfl, .inr ⟨t.sq, q _ _ (.here R r1)⟩⟩
      · rename_i n
        have hl : lstD S (.loc n) = some ys := hy
        obtain ⟨a, xs, rfl, hq, rs⟩ := lstD_rep R r1 hl
        exact ⟨a, xs, rfl, .inl ⟨hq, fun l hl => q _ _ (.tup R rs hl)⟩⟩
      · cases hy
    · cases e
  · cases e
def listG : GC := fun ds S => match ds with
  | [d] => match seqD S d with
    | some xs => some (.loc (List.length S), S ++ [.lst xs])
    | none => none
  | _ => none
theorem does_list : DoesCall T X (.type "list") listG := by
  refine doesCall call_list_of fun φ S H xs ds d S' Q R rr e q => ?_
  unfold listG at e
  split at e
  · rename_i d'
    obtain ⟨v, rfl, r1⟩ := reps1 rr
    split at e
    · rename_i ys hy
      cases e
      obtain ⟨a, zs, rfl, hq, rz⟩ := seqD_rep R r1 hy
      exact ⟨a, zs, rfl, hq, fun l hl => q _ _ (.lst R rz hl)⟩
    · cases e
  · cases e
def absG : GC := fun ds S => match ds with
  | [.int i] => some (.int (if i < 0 then -i else i), S)
  | _ => none
theorem does_abs : DoesCall T X (.builtin "abs") absG := by
  refine doesCall call_abs fun φ S H xs ds d S' Q R rr e q => ?_
  unfold absG at e
  split at e
  · cases e
    obtain ⟨v, rfl, r1⟩ := reps1 rr
    exact ⟨_, by rw [r1.int_inv], q _ _ (.here R (.int _))⟩
  · cases e
def intG : GC := fun ds S => match ds with
  | [.int i] => some (.int i, S)
  | [.bl b] => some (.int (if b then 1 else 0), S)
  | _ => none
theorem does_int1 : DoesCall T X (.type "int") intG := by
  refine doesCall call_int1 fun φ S H xs ds d S' Q R rr e q => ?_
  unfold intG at e
  split at e
  · cases e
    obtain ⟨v, rfl, r1⟩ := reps1 rr
    exact .inl ⟨_, by rw [r1.int_inv], q _ _ (.here R (.int _))⟩
  · cases e
    obtain ⟨v, rfl, r1⟩ := reps1 rr
    exact .inr ⟨_, by rw [r1.bl_inv], q _ _ (.here R (.int _))⟩
  · cases e

/-! ### over lists of ints or bools -/
def intsOf : List D → Option (List Int)
  | [] => some []
  | .int i :: ds => match intsOf ds with
    | some is => some (i :: is)
    | none => none
  | _ :: _ => none
theorem intsOf_reps {K : PySem.W.Frag} {φ : List Addr} {H : Hp} : ∀ {ds : List D} {xs : List V} {is : List Int}, Reps K φ H xs ds → intsOf ds = some is → xs = is.map V.int
  | [], _, is, r, e => by cases r; cases e; rfl
  | .int i :: ds, _, is, r, e => by
    cases r with
    | cons r t =>
      simp only [intsOf] at e
      cases h : intsOf ds with
      | none => rw [h] at e; cases e
      | some js => rw [h] at e; cases e; rw [r.int_inv, intsOf_reps t h]; rfl
  | .non :: _, _, _, _, e => by simp [intsOf] at e
  | .bl _ :: _, _, _, _, e => by simp [intsOf] at e
  | .str _ :: _, _, _, _, e => by simp [intsOf] at e
  | .tup _ :: _, _, _, _, e => by simp [intsOf] at e
  | .loc _ :: _, _, _, _, e => by simp [intsOf] at e
def blsOf : List D → Option (List Bool)
  | [] => some []
  | .bl i :: ds => match blsOf ds with
    | some is => some (i :: is)
    | none => none
  | _ :: _ => none
theorem blsOf_reps {K : PySem.W.Frag} {φ : List Addr} {H : Hp} : ∀ {ds : List D} {xs : List V} {is : List Bool}, Reps K φ H xs ds → blsOf ds = some is → xs = is.map V.bl
  | [], _, is, r, e => by cases r; cases e; rfl
  | .bl i :: ds, _, is, r, e => by
    cases r with
    | cons r t =>
      simp only [blsOf] at e
      cases h : blsOf ds with
      | none => rw [h] at e; cases e
      | some js => rw [h] at e; cases e; rw [r.bl_inv, blsOf_reps t h]; rfl
  | .non :: _, _, _, _, e => by simp [blsOf] at e
  | .int _ :: _, _, _, _, e => by simp [blsOf] at e
  | .str _ :: _, _, _, _, e => by simp [blsOf] at e
  | .tup _ :: _, _, _, _, e => by simp [blsOf] at e
  | .loc _ :: _, _, _, _, e => by simp [blsOf] at e
def overG {α : Type} (f : List D → Option (List α)) (h : List α → Option D) : GC := fun ds S => match ds with
  | [d] => match lstD S d with
    | some xs => match f xs with
      | some is => match h is with
        | some r => some (r, S)
        | none => none
      | none => none
    | none => none
  | _ => none
def leastI : List Int → Option D
  | [] => none
  | i :: is => some (.int (is.foldl min i))
def mostI : List Int → Option D
  | [] => none
  | i :: is => some (.int (is.foldl max i))
def sumI (is : List Int) : Option D := some (.int is.sum)
def anyB (bs : List Bool) : Option D := some (.bl (bs.any id))
def allB (bs : List Bool) : Option D := some (.bl (bs.all id))
theorem foldl_min : ∀ (is : List Int) (i : Int), is.foldl min i ∈ i :: is ∧ ∀ y ∈ i :: is, is.foldl min i ≤ y
  | [], i => ⟨by simp, by simp⟩
  | j :: is, i => by
    obtain ⟨h1, h2⟩ := foldl_min is (min i j)
    simp only [List.foldl_cons, List.mem_cons] at h1 h2 ⊢
    refine ⟨?_, fun y hy => ?_⟩
    · rcases h1 with h1 | h1
      · rw [h1]; have : min i j = i ∨ min i j = j := by omega
        rcases this with e | e <;> simp [e]
      · exact .inr (.inr h1)
    · have h0 := h2 (min i j) (.inl rfl)
      rcases hy with rfl | rfl | hy
      · omega
      · omega
      · exact h2 y (.inr hy)
theorem foldl_max : ∀ (is : List Int) (i : Int), is.foldl max i ∈ i :: is ∧ ∀ y ∈ i :: is, y ≤ is.foldl max i
  | [], i => ⟨by simp, by simp⟩
  | j :: is, i => by
    obtain ⟨h1, h2⟩ := foldl_max is (max i j)
    simp only [List.foldl_cons, List.mem_cons] at h1 h2 ⊢
    refine ⟨?_, fun y hy => ?_⟩
    · rcases h1 with h1 | h1
      · rw [h1]; have : max i j = i ∨ max i j = j := by omega
        rcases this with e | e <;> simp [e]
      · exact .inr (.inr h1)
    · have h0 := h2 (max i j) (.inl rfl)
      rcases hy with rfl | rfl | hy
      · omega
      · omega
      · exact h2 y (.inr hy)
theorem overG_inv {α : Type} {F : List D → Option (List α)} {h : List α → Option D} {ds : List D} {S S' : Store} {d : D} (e : overG F h ds S = some (d, S')) : ∃ d' xs is, ds = [d'] ∧ lstD S d' = some xs ∧ F xs = some is ∧ h is = some d ∧ S' = S := by
  unfold overG at e
  split at e
  · rename_i d'
    split at e
    · rename_i xs h1
      split at e
      · rename_i is h2
        split at e
        · rename_i r h3
          cases e
          exact ⟨d', xs, is, rfl, h1, h2, h3, rfl⟩
        · cases e
      · cases e
    · cases e
  · cases e
theorem does_min (hc : X.calm = true) : DoesCall T X (.builtin "min") (overG intsOf leastI) := by
  refine doesCall (cr_min hc) fun φ S H xs ds d S' Q R rr e q => ?_
  obtain ⟨d', ys, is, rfl, h1, h2, h3, rfl⟩ := overG_inv e
  obtain ⟨v, rfl, r1⟩ := reps1 rr
  obtain ⟨a, zs, rfl, hq, rz⟩ := lstD_rep R r1 h1
  cases is with
  | nil => cases h3
  | cons i is =>
    cases h3
    refine ⟨a, i :: is, rfl, by rw [← intsOf_reps rz h2]; exact hq, by simp, fun m hm hle => ?_⟩
    obtain ⟨g1, g2⟩ := foldl_min is i
    have : m = is.foldl min i := by
      have := hle _ g1
      have := g2 m hm
      omega
    rw [this]
    exact q _ _ (.here R (.int _))
theorem does_max (hc : X.calm = true) : DoesCall T X (.builtin "max") (overG intsOf mostI) := by
  refine doesCall (cr_max hc) fun φ S H xs ds d S' Q R rr e q => ?_
  obtain ⟨d', ys, is, rfl, h1, h2, h3, rfl⟩ := overG_inv e
  obtain ⟨v, rfl, r1⟩ := reps1 rr
  obtain ⟨a, zs, rfl, hq, rz⟩ := lstD_rep R r1 h1
  cases is with
  | nil => cases h3
  | cons i is =>
    cases h3
    refine ⟨a, i :: is, rfl, by rw [← intsOf_reps rz h2]; exact hq, by simp, fun m hm hle => ?_⟩
    obtain ⟨g1, g2⟩ := foldl_max is i
    have : m = is.foldl max i := by
      have := hle _ g1
      have := g2 m hm
      omega
    rw [this]
    exact q _ _ (.here R (.int _))
theorem does_sum (hc : X.calm = true) : DoesCall T X (.builtin "sum") (overG intsOf sumI) := by
  refine doesCall (cr_sum hc) fun φ S H xs ds d S' Q R rr e q => ?_
  obtain ⟨d', ys, is, rfl, h1, h2, h3, rfl⟩ := overG_inv e
  obtain ⟨v, rfl, r1⟩ := reps1 rr
  obtain ⟨a, zs, rfl, hq, rz⟩ := lstD_rep R r1 h1
  cases h3
  exact ⟨a, is, rfl, by rw [← intsOf_reps rz h2]; exact hq, q _ _ (.here R (.int _))⟩
theorem does_any (hc : X.calm = true) : DoesCall T X (.builtin "any") (overG blsOf anyB) := by
  refine doesCall (cr_any hc) fun φ S H xs ds d S' Q R rr e q => ?_
  obtain ⟨d', ys, is, rfl, h1, h2, h3, rfl⟩ := overG_inv e
  obtain ⟨v, rfl, r1⟩ := reps1 rr
  obtain ⟨a, zs, rfl, hq, rz⟩ := lstD_rep R r1 h1
  cases h3
  exact ⟨a, is, rfl, by rw [← blsOf_reps rz h2]; exact hq, q _ _ (.here R (.bl _))⟩
theorem does_all (hc : X.calm = true) : DoesCall T X (.builtin "all") (overG blsOf allB) := by
  refine doesCall (cr_all hc) fun φ S H xs ds d S' Q R rr e q => ?_
  obtain ⟨d', ys, is, rfl, h1, h2, h3, rfl⟩ := overG_inv e
  obtain ⟨v, rfl, r1⟩ := reps1 rr
  obtain ⟨a, zs, rfl, hq, rz⟩ := lstD_rep R r1 h1
  cases h3
  exact ⟨a, is, rfl, by rw [← blsOf_reps rz h2]; exact hq, q _ _ (.here R (.bl _))⟩
def min2G : GC := fun ds S => match ds with
  | [.int i, .int j] => some (.int (if j < i then j else i), S)
  | _ => none
theorem does_min2 (hc : X.calm = true) : DoesCall T X (.builtin "min") min2G := by
  refine doesCall (call_min2 hc) fun φ S H xs ds d S' Q R rr e q => ?_
  unfold min2G at e
  split at e
  · cases e
    obtain ⟨v, u, rfl, r1, r2⟩ := reps2 rr
    exact ⟨_, _, by rw [r1.int_inv, r2.int_inv], q _ _ (.here R (.int _))⟩
  · cases e
def max2G : GC := fun ds S => match ds with
  | [.int i, .int j] => some (.int (if j > i then j else i), S)
  | _ => none
theorem does_max2 (hc : X.calm = true) : DoesCall T X (.builtin "max") max2G := by
  refine doesCall (call_max2 hc) fun φ S H xs ds d S' Q R rr e q => ?_
  unfold max2G at e
  split at e
  · cases e
    obtain ⟨v, u, rfl, r1, r2⟩ := reps2 rr
    exact ⟨_, _, by rw [r1.int_inv, r2.int_inv], q _ _ (.here R (.int _))⟩
  · cases e
end
end RF

end

/-! ## RJ -/
section
set_option maxRecDepth 100000
/-! Sorting by data. -/
namespace RF
open PySem PySem.Spec PyProof.Rows L2

def enc (d : D) : PyData := match toPy [] 40 d with
  | some p => p
  | none => .none
def leD (a b : D) : Bool := !PySem.W.dataLt (enc b) (enc a)
def insD (le : D → D → Bool) (a : D) : List D → List D
  | [] => [a]
  | b :: r => if le a b then a :: b :: r else b :: insD le a r
def isort (le : D → D → Bool) : List D → List D
  | [] => []
  | a :: r => insD le a (isort le r)
def nonTup : PyData → Bool
  | .none => false
  | .tuple _ => false
  | _ => true
def someTup : PyData → Bool
  | .tuple (_ :: _) => true
  | _ => false
/-- these can be sorted -/
def sortOk (ds : List D) : Bool := decide (ds.length ≤ most) && ds.all (fun d => (toPy [] 40 d).isSome) && ds.all (fun a => ds.all fun b => PySem.W.alike (enc a) (enc b)) && (ds.all (fun d => someTup (enc d)) || ds.all (fun d => nonTup (enc d)))
theorem leD_eq : PySem.W.dataLe false enc = leD := rfl
theorem leD_total : PySem.W.TotalLe leD := by
  rw [← leD_eq]
  exact PySem.W.sortLe_total _ false _
theorem leD_tot (a b : D) : (leD a b || leD b a) = true := by
  rcases leD_total.total a b with h | h <;> simp [h]
theorem insD_eq {le : D → D → Bool} {a : D} : ∀ {l₁ l₂ : List D}, (∀ b ∈ l₁, le a b = false) → (∀ b ∈ l₂, le a b = true) → insD le a (l₁ ++ l₂) = l₁ ++ a :: l₂
  | [], [], _, _ => rfl
  | [], b :: r, _, h => by
    show insD le a (b :: r) = a :: b :: r
    unfold insD
    rw [if_pos (h b List.mem_cons_self)]
  | b :: r, l₂, h, h2 => by
    show insD le a (b :: (r ++ l₂)) = b :: (r ++ a :: l₂)
    unfold insD
    rw [if_neg (by rw [h b List.mem_cons_self]; exact Bool.false_ne_true)]
    rw [insD_eq (fun c hc => h c (List.mem_cons_of_mem _ hc)) h2]
theorem isort_eq {le : D → D → Bool} (tr : ∀ a b c, le a b = true → le b c = true → le a c = true) (to : ∀ a b, (le a b || le b a) = true) : ∀ l : List D, l.mergeSort le = isort le l
  | [] => by simp [isort]
  | a :: r => by
    obtain ⟨l₁, l₂, h1, h2, h3⟩ := List.mergeSort_cons tr to a r
    have ps := List.pairwise_mergeSort tr to (a :: r)
    rw [h1] at ps ⊢
    show _ = insD le a (isort le r)
    rw [← isort_eq tr to r, h2]
    symm
    refine insD_eq (fun b hb => ?_) fun b hb => ?_
    · have := h3 b hb
      simpa using this
    · have := (List.pairwise_append.mp ps).2.1
      exact (List.pairwise_cons.mp this).1 b hb
section
variable {X : Cx} {T : List Addr} {pins : List (Addr × Obj)} {σ : L2.St} {H : Hp} {s : Shared} {φ : List Addr}
mutual
/-- data without places reads off tuples alone -/
theorem rep_reads (I : Inv X pins σ H s) : ∀ (f : Nat) (d : D) (v : V) (u : Value) (p : PyData), Rep X.K φ H v d → RelV v u → toPy [] f d = some p → Reads s.heap u p []
  | f, .non, v, u, p, r, ru, e => by
    cases r
    obtain rfl : u = Value.none := ru
    (simp only [toPy_non, toPy_bl, toPy_int, Option.some.injEq] at e; subst e; exact .none)
  | f, .bl b, v, u, p, r, ru, e => by
    cases r
    obtain rfl : u = Value.bool b := ru
    (simp only [toPy_non, toPy_bl, toPy_int, Option.some.injEq] at e; subst e; exact .bool b)
  | f, .int i, v, u, p, r, ru, e => by
    cases r
    obtain ⟨t, rfl⟩ : ∃ t, u = Value.int i t := ru
    (simp only [toPy_non, toPy_bl, toPy_int, Option.some.injEq] at e; subst e; exact .int i t)
  | f, .str x, v, u, p, r, ru, e => by
    cases r
    obtain ⟨t, rfl⟩ : ∃ t, u = Value.str x t := ru
    have e2 : (if PySem.PyData.strOk x = true then some (PyData.str x) else none) = some p := by rw [toPy_str] at e; exact e
    split at e2
    · cases e2; exact .str x t
    · cases e2
  | 0, .tup _, v, u, p, r, ru, e => by rw [toPy_tup0] at e; cases e
  | 0, .loc _, v, u, p, r, ru, e => by rw [toPy_loc0] at e; cases e
  | f + 1, .tup ds, v, u, p, r, ru, e => by
    obtain ⟨a, xs, rfl, t, rs⟩ := r.tup_inv
    obtain rfl : u = Value.ref a := ru
    rw [toPy_tup] at e
    cases h : toPys [] f ds with
    | none => rw [h] at e; cases e
    | some ps =>
      rw [h] at e; cases e
      obtain ⟨its, rv, ⟨o, h1, h2, n, h3⟩, _⟩ := I.tuple t.sq
      exact .tuple h1 h2 h3 (by simpa using reps_reads I f ds xs its ps rs rv h)
  | f + 1, .loc n, v, u, p, r, ru, e => by simp [toPy_loc] at e
theorem reps_reads (I : Inv X pins σ H s) : ∀ (f : Nat) (ds : List D) (xs : List V) (us : List Value) (ps : List PyData), Reps X.K φ H xs ds → Vals xs us → toPys [] f ds = some ps → ReadsAll s.heap us ps []
  | f, [], xs, us, ps, r, rv, e => by
    cases r
    cases rv
    (simp only [toPys_nil, Option.some.injEq] at e; subst e; exact .nil)
  | f, d :: ds, xs, us, ps, r, rv, e => by
    cases r with
    | cons r rs => cases rv with
      | cons ru rus =>
        have e2 : (match toPy [] f d, toPys [] f ds with
          | some p, some ps => some (p :: ps)
          | _, _ => none) = some ps := by rw [toPys_cons] at e; exact e
        cases h1 : toPy [] f d with
        | none => rw [h1] at e2; cases e2
        | some p =>
          cases h2 : toPys [] f ds with
          | none => rw [h1, h2] at e2; cases e2
          | some qs =>
            rw [h1, h2] at e2; cases e2
            exact .cons (as := []) (bs := []) (rep_reads I f d _ _ p r ru h1) (reps_reads I f ds _ _ qs rs rus h2)
end
/-- what a value stands for -/
def StandsFor (K : PySem.W.Frag) (φ : List Addr) (H : Hp) (u : Value) (d : D) : Prop := ∃ v, RelV v u ∧ Rep K φ H v d
theorem each_stands {K : PySem.W.Frag} : ∀ {xs : List V} {us : List Value} {ds : List D}, Vals xs us → Reps K φ H xs ds → PySem.W.EachIs (StandsFor K φ H) us ds
  | _, _, _, .nil, .nil => .nil
  | _, _, _, .cons r t, .cons q s => .cons ⟨_, r, q⟩ (each_stands t s)
theorem stands_back {K : PySem.W.Frag} : ∀ {us : List Value} {ds : List D}, PySem.W.EachIs (StandsFor K φ H) us ds → ∃ xs, Vals xs us ∧ Reps K φ H xs ds
  | _, _, .nil => ⟨[], .nil, .nil⟩
  | _, _, .cons ⟨v, r, q⟩ t => let ⟨xs, h1, h2⟩ := stands_back t; ⟨v :: xs, .cons r h1, .cons q h2⟩
theorem sortOk_inv {ds : List D} (h : sortOk ds = true) : ds.length ≤ most ∧ (∀ d ∈ ds, ∃ p, toPy [] 40 d = some p) ∧ PySem.W.AllAlike (ds.map enc) ∧ PySem.W.Sortable (ds.map enc) := by
  unfold sortOk at h
  simp only [Bool.and_eq_true, decide_eq_true_eq, List.all_eq_true, Bool.or_eq_true] at h
  obtain ⟨⟨⟨h1, h2⟩, h3⟩, h4⟩ := h
  refine ⟨h1, fun d hd => Option.isSome_iff_exists.mp (h2 d hd), fun a ha b hb => ?_, ?_⟩
  · obtain ⟨x, hx, rfl⟩ := List.mem_map.mp ha
    obtain ⟨y, hy, rfl⟩ := List.mem_map.mp hb
    exact h3 x hx y hy
  · rcases h4 with h4 | h4
    · refine .inl fun a ha => ?_
      obtain ⟨x, hx, rfl⟩ := List.mem_map.mp ha
      have := h4 x hx
      unfold someTup at this
      split at this
      · rename_i e; exact ⟨_, _, e⟩
      · cases this
    · refine .inr fun a ha => ?_
      obtain ⟨x, hx, rfl⟩ := List.mem_map.mp ha
      have := h4 x hx
      refine ⟨fun e => ?_, fun xs e => ?_⟩
      · rw [e] at this; cases this
      · rw [e] at this; cases this
theorem each_reads (I : Inv X pins σ H s) {us : List Value} {ds : List D} (h : ∀ d ∈ ds, ∃ p, toPy [] 40 d = some p) (e : PySem.W.EachIs (StandsFor X.K φ H) us ds) : PySem.W.EachIs (fun v d => Reads s.heap v (enc d) []) us ds := by
  induction e with
  | nil => exact .nil
  | @cons a d as ds st t ih =>
    obtain ⟨v, r, q⟩ := st
    refine .cons ?_ (ih fun d hd => h d (List.mem_cons_of_mem _ hd))
    obtain ⟨p, hp⟩ := h d List.mem_cons_self
    have : enc d = p := by unfold enc; rw [hp]
    rw [this]
    exact rep_reads I 40 d v _ p q r hp
theorem enc_depth {d : D} (h : ∃ p, toPy [] 40 d = some p) : (enc d).depth ≤ 40 := by
  obtain ⟨p, hp⟩ := h
  have : enc d = p := by unfold enc; rw [hp]
  rw [this]
  exact (toPy_lay [] 40 d p hp).2
end
def sortD (ds : List D) : List D := isort leD ds
def sortedG : GC := fun ds S => match ds with
  | [d] => match lstD S d with
    | some xs => if sortOk xs = true then some (.loc (List.length S), S ++ [.lst (sortD xs)]) else none
    | none => none
  | _ => none
section
variable {X : Cx} {T : List Addr} {m : Nat}
theorem room_sort {A : Around} (hr : Room m A) {ds : List D} (h : ∀ d ∈ ds, ∃ p, toPy [] 40 d = some p) : ∀ b ∈ ds, A.units + 2 + (enc b).depth < cLine := by
  intro b hb
  have h1 := enc_depth (h b hb)
  have := hr.un
  omega
/-- behind a sort: the new list -/
theorem sort_end {pins : List (Addr × Obj)} {s : Shared} {σ : L2.St} {H : Hp} {φ : List Addr} {S : Store} {ds : List D} {out : List Value} {h' : Heap} {tk p c : Nat} (I : Inv X pins σ H s) (R : Rel (ctOf X T) φ S H) (eo : PySem.W.EachIs (StandsFor X.K φ H) out (ds.mergeSort (PySem.W.dataLe false enc))) (hl : ds.length ≤ most)
    (hk : ∀ b o, s.heap.get? b = some o → h'.get? b = some o) (hp : s.heap.objs.size ≤ p) (hg : h'.get? p = some { cls := .type "list", data := .seq out.toArray c }) :
    EP X pins σ (QE (ctOf X T) φ H (S ++ [.lst (sortD ds)]) (.loc (List.length S))) (.ref p) { s with heap := h', toks := tk } := by
  obtain ⟨xs, rv, rr⟩ := stands_back eo
  have e : ds.mergeSort (PySem.W.dataLe false enc) = sortD ds := isort_eq leD_total.trans leD_tot ds
  have hlen : xs.length ≤ sizeLine := by
    rw [rr.length, List.length_mergeSort]
    exact most_line hl
  have hf : H p = none := I.hok.fresh hp
  have J : Inv X pins σ (upd H p (.lst xs)) { s with heap := h', toks := tk } := I.laid (t' := tk) hk hp (show ObjOk X.prog X.w _ h' p (.lst xs) from ⟨hlen, out, c, rv, hg⟩)
  rw [e] at rr
  exact ⟨.ref p, _, J, rfl, .lst R rr hf⟩
theorem does_sorted (hr : Room m X.A) : DoesCall T X (.builtin "sorted") sortedG := by
  intro pins s σ H φ S xs us ds d S' I R rr rs e
  unfold sortedG at e
  split at e
  · rename_i d'
    obtain ⟨v, rfl, r1⟩ := reps1 rr
    split at e
    · rename_i ys hy
      split at e
      · rename_i hok
        cases e
        obtain ⟨a, zs, rfl, hq, rz⟩ := lstD_rep R r1 hy
        obtain ⟨u, rfl, ru⟩ := vals1 rs
        obtain rfl : u = Value.ref a := ru
        obtain ⟨its, rv, pl, hz⟩ := I.list hq
        obtain ⟨o1, o2, o3, o4⟩ := sortOk_inv hok
        have es := each_stands rv rz
        refine PySem.W.sorted_data (R := StandsFor X.K φ H) (enc := enc) pl.isList es ((each_reads I o2 es).mono fun _ _ h => ⟨_, h⟩) o3 o4 (most_line o1) (room_sort hr o2) fun out hlen eo => ?_
        obtain ⟨c, hc⟩ := sortedAll_at s.heap its out.toArray
        exact sort_end (tk := s.toks) I R eo o1 (fun b o q => sortedAll_old q) (Nat.le_succ _) hc
      · cases e
    · cases e
  · cases e
end
end RF

end

/-! ## RK -/
section
set_option maxRecDepth 100000
/-! Sorted dicts and sets. -/
namespace RF
open PySem PySem.Spec PyProof.Rows L2

/-- s' is s but for things that are added -/
structure Kp (s s' : Shared) : Prop where
  keep : ∀ b o, s.heap.get? b = some o → s'.heap.get? b = some o
  gens : s'.gens = s.gens
  os : s'.os = s.os
section
variable {X : Cx} {T : List Addr} {m : Nat} {pins : List (Addr × Obj)} {σ : L2.St} {H : Hp} {s s' : Shared} {φ : List Addr} {S : Store}
theorem inv_kp (I : Inv X pins σ H s) (k : Kp s s') : Inv X pins σ H s' :=
  I.call' (ch := []) k.os (Un.kept k.keep) (I.hok.kept k.keep) (by rw [k.gens]; exact I.bare) (fun _ z => nomatch z)
theorem sorted_of {a : Addr} {res : List D} {E : Value → Shared → Prop} (hr : Room m X.A) (I : Inv X pins σ H s) (R : Rel (ctOf X T) φ S H)
    (hcol : ∀ Rr : List Value → Shared → Prop, (∀ s1 vs ds, Kp s s1 → sortOk ds = true → sortD ds = res → PySem.W.EachIs (StandsFor X.K φ H) vs ds → Rr vs s1) → wpAny (model X.prog X.w) X.A.in1 (collect (.ref a)) Rr E s) :
    wpAny (model X.prog X.w) X.A (call (.builtin "sorted") [.ref a]) (EP X pins σ (QE (ctOf X T) φ H (S ++ [.lst res]) (.loc (List.length S)))) E s := by
  refine Calls.call_function_entry kind_sorted plain_sorted entry_sorted (args_sorted1 _) ?_
  unfold Builtin.«sorted»
  refine wpAny_bind (m := checkCount "sorted" 1 1 _) (wpAny_pure ?_)
  refine wpAny_bind (hcol _ fun s1 vs ds k1 hok hres es => ?_)
  obtain ⟨o1, o2, o3, o4⟩ := sortOk_inv hok
  subst hres
  have I1 := inv_kp I k1
  have hlen : vs.length = ds.length := es.length
  refine wpAny_bind (wpAny_newList ?_ (by rw [hlen]; exact most_line o1))
  have hoL : (s1.heap.push (seqObj "list" vs.toArray 0)).get? s1.heap.objs.size = some (seqObj "list" vs.toArray 0) := Heap.get?_push_size _ rfl
  have I2 : Inv X pins σ H { s1 with heap := s1.heap.push (seqObj "list" vs.toArray 0) } := I1.kept (t' := s1.toks) fun b u e => Heap.get?_push_of_some _ e
  have er := (each_reads I2 o2 es).mono (R' := fun v b => ∃ as, Reads (s1.heap.push (seqObj "list" vs.toArray 0)) v (enc b) as ∧ s1.heap.objs.size ∉ as) fun v d h => ⟨[], h, by simp⟩
  refine wpAny_bind (wpAny_holding (PySem.W.list_sort_data (A := X.A.in1) (R := StandsFor X.K φ H) (enc := enc) (s := { s1 with heap := s1.heap.push (seqObj "list" vs.toArray 0) }) hoL es er o3 o4 (most_line o1) (fun b hb => ?_) fun out hlo eo => ?_))
  · have := room_sort hr o2 b hb
    show X.A.units + 1 + 1 + (enc b).depth < cLine
    omega
  · obtain ⟨c, hc⟩ := sortedHeap_at (vs := vs) (out := out.toArray) hoL
    refine wpAny_pure ⟨_, rfl, ?_⟩
    have fin := sort_end (s := s1) (tk := s1.toks) I1 R eo o1 (fun b u e => by
      have hlt := Heap.lt_size e
      show (sortedHeap (s1.heap.push (seqObj "list" vs.toArray 0)) s1.heap.objs.size vs out.toArray).get? b = some u
      rw [sortedHeap_old (Nat.ne_of_lt hlt) (by rw [size_push']; exact Nat.lt_succ_of_lt hlt)]
      exact Heap.get?_push_of_some _ e) (Nat.le_refl _) hc
    exact fin
theorem eachIs_at {α β : Type} {R : α → β → Prop} : ∀ {as : List α} {bs : List β}, as.length = bs.length → (∀ (i : Nat) (a : α) (b : β), as[i]? = some a → bs[i]? = some b → R a b) → PySem.W.EachIs R as bs
  | [], [], _, _ => .nil
  | [], _ :: _, h, _ => by simp at h
  | _ :: _, [], h, _ => by simp at h
  | a :: as, b :: bs, h, f => .cons (f 0 a b rfl rfl) (eachIs_at (by simpa using h) fun i x y h1 h2 => f (i + 1) x y (by simpa using h1) (by simpa using h2))
theorem EntsT.key {K : PySem.W.Frag} : ∀ {xs : List (NestedKey × Addr × Value)} {kvs : List (D × D)} {i : Nat} {y : NestedKey × Addr × Value} {e : D × D}, EntsT K φ H xs kvs → xs[i]? = some y → kvs[i]? = some e → Rep K φ H (.ref y.2.1) e.1
  | _, _, _, _, _, .nil, h, _ => by simp at h
  | _, _, 0, _, _, .cons _ r _ _ _, h, h2 => by
    simp at h h2
    subst h h2
    exact r
  | _, _, i + 1, _, _, .cons _ _ _ _ t, h, h2 => EntsT.key (i := i) t (by simpa using h) (by simpa using h2)
/-- sorted(d), d a dict whose keys are tuples -/
def sortedDG : GC := fun ds S => match ds with
  | [.loc n] => match (S : List O)[n]? with
    | some (.dct kvs) => if sortOk (kvs.map (·.1)) = true then if (kvs.all fun e => (tkD e.1).isSome) = true then some (.loc (List.length S), S ++ [.lst (sortD (kvs.map (·.1)))]) else none else none
    | _ => none
  | _ => none
theorem does_sortedD (hc : X.calm = true) (hr : Room m X.A) : DoesCall T X (.builtin "sorted") sortedDG := by
  intro pins s σ H φ S xs us ds d S' I R rr rs e
  unfold sortedDG at e
  split at e
  · rename_i n
    obtain ⟨v, rfl, r1⟩ := reps1 rr
    obtain ⟨a, rfl, ea⟩ := r1.loc_inv
    obtain ⟨u, rfl, ru⟩ := vals1 rs
    obtain rfl : u = Value.ref a := ru
    split at e
    · rename_i kvs hk
      split at e
      · rename_i hok
        split at e
        · rename_i hall
          cases e
          have main : ∀ (H1 : Hp) (ys : List (NestedKey × Addr × Value)), Inv X pins σ H1 s → Rel (ctOf X T) φ S H1 → Keep H H1 → H1 a = some (KD X.prog X.w a ys) → EntsT X.K φ H1 ys kvs →
              wpAny (model X.prog X.w) X.A (call (.builtin "sorted") [.ref a]) (EP X pins σ (QE (ctOf X T) φ H (S ++ [.lst (sortD (kvs.map (·.1)))]) (.loc (List.length S)))) X.xe s := fun H1 ys I1 R1 K1 hH E => by
            obtain ⟨z1, z2, z3⟩ := kd_of I1 hH E
            obtain ⟨es, ep, hraw, hsz, hat⟩ := z3.raw
            refine thn (sorted_of hr I1 R1 fun Rr hR => ?_) fun w s' ⟨z, H', I', rz, p⟩ => ⟨z, H', I', rz, p.later (List.prefix_refl _) K1⟩
            refine PySem.W.kdu_collect (A := X.A.in1) (KdlSrc.rawDict (es := es) (ep := ep) z1) (I.ok.hd hc) hraw (by rw [hsz]; exact z2) fun h' tk acc hkp hacc => ?_
            refine hR _ _ _ ⟨hkp, rfl, rfl⟩ hok rfl (eachIs_at ?_ fun i x y hx hy => ?_)
            · rw [Array.length_toList, hacc.1, hsz, E.length, List.length_map]
            · obtain ⟨hi, hv⟩ := hacc.2 i x (by rw [← Array.getElem?_toList]; exact hx)
              obtain ⟨y0, hy0, hk0, _, _⟩ := hat i hi
              rw [List.getElem?_map] at hy
              cases he : kvs[i]? with
              | none => rw [he] at hy; cases hy
              | some e0 =>
                rw [he] at hy
                cases hy
                refine ⟨.ref y0.2.1, by rw [hv, hk0]; rfl, E.key hy0 he⟩
          rcases R.obj _ _ _ ea hk with ⟨ks, hH, E⟩ | ⟨ys, hH, E⟩
          · cases E with
            | nil =>
              have hw := R.write (u := KD X.prog X.w a []) (o' := .dct []) ea hk rfl (.inr ⟨[], upd_same, .nil⟩)
              have e2 : List.set S n (.dct []) = S := by
                apply List.ext_getElem?
                intro m
                by_cases hm : m = n
                · subst hm; rw [List.getElem?_set_self (List.getElem?_eq_some_iff.mp hk).1, hk]
                · rw [List.getElem?_set_ne (Ne.symm hm)]
              rw [e2] at hw
              exact main _ [] (conv_t I hH) hw (R.obj _ _ _ ea hk).keep upd_same .nil
            | cons e1 _ _ =>
              simp only [List.all_cons, Bool.and_eq_true] at hall
              exact (not_both e1 hall.1).elim
          · exact main H ys I R (Keep.refl _) hH E
        · cases e
      · cases e
    · cases e
  · cases e
end
end RF

end

/-! ## RL -/
section
set_option maxRecDepth 100000
/-! sorted(set(xs)), xs a list of tuples of ints. -/
namespace RF
open PySem PySem.Spec PyProof.Rows L2

/-! ### rows of ints -/
def tupI (r : List Int) : D := .tup (r.map .int)
def rowI : D → Option (List Int)
  | .tup ds => intsOf ds
  | _ => none
def rowsI : List D → Option (List (List Int))
  | [] => some []
  | d :: ds => match rowI d, rowsI ds with
    | some r, some rs => some (r :: rs)
    | _, _ => none
def ltI : List Int → List Int → Bool
  | [], [] => false
  | [], _ :: _ => true
  | _ :: _, [] => false
  | x :: xs, y :: ys => decide (x < y) || (decide (x = y) && ltI xs ys)
def leI (a b : List Int) : Bool := !ltI b a
def insI (a : List Int) : List (List Int) → List (List Int)
  | [] => [a]
  | b :: r => if leI a b then a :: b :: r else b :: insI a r
def isortI : List (List Int) → List (List Int)
  | [] => []
  | a :: r => insI a (isortI r)
def dedupI : List (List Int) → List (List Int)
  | [] => []
  | a :: r => if dedupI r |>.contains a then dedupI r else a :: dedupI r

theorem intsOf_map : ∀ {ds : List D} {is : List Int}, intsOf ds = some is → ds = is.map .int
  | [], is, e => by cases e; rfl
  | .int i :: ds, is, e => by
    simp only [intsOf] at e
    cases h : intsOf ds with
    | none => rw [h] at e; cases e
    | some js => rw [h] at e; cases e; rw [intsOf_map h]; rfl
  | .non :: _, _, e => by simp [intsOf] at e
  | .bl _ :: _, _, e => by simp [intsOf] at e
  | .str _ :: _, _, e => by simp [intsOf] at e
  | .tup _ :: _, _, e => by simp [intsOf] at e
  | .loc _ :: _, _, e => by simp [intsOf] at e
theorem intsOf_ints : ∀ is : List Int, intsOf (is.map .int) = some is
  | [] => rfl
  | i :: is => by simp [intsOf, intsOf_ints is]
theorem rowI_inv {d : D} {r : List Int} (e : rowI d = some r) : d = tupI r := by
  cases d <;> simp only [rowI] at e <;> try cases e
  rw [intsOf_map e]; rfl
theorem rowI_tupI (r : List Int) : rowI (tupI r) = some r := intsOf_ints r
theorem rowsI_map : ∀ {ds : List D} {rs : List (List Int)}, rowsI ds = some rs → ds = rs.map tupI
  | [], rs, e => by cases e; rfl
  | d :: ds, rs, e => by
    simp only [rowsI] at e
    cases h : rowI d with
    | none => rw [h] at e; cases e
    | some r =>
      cases h2 : rowsI ds with
      | none => rw [h, h2] at e; cases e
      | some rs' => rw [h, h2] at e; cases e; rw [rowI_inv h, rowsI_map h2]; rfl
theorem rowsI_rows : ∀ rs : List (List Int), rowsI (rs.map tupI) = some rs
  | [] => rfl
  | r :: rs => by simp [rowsI, rowI_tupI, rowsI_rows rs]
theorem toPys_ints (f : Nat) : ∀ is : List Int, toPys [] f (is.map .int) = some (is.map PyData.int)
  | [] => rfl
  | i :: is => by rw [List.map_cons, toPys_cons, toPy_int, toPys_ints f is]; rfl
theorem toPy_tupI (r : List Int) : toPy [] 40 (tupI r) = some (.tuple (r.map PyData.int)) := by
  unfold tupI
  rw [toPy_tup, toPys_ints]
theorem enc_tupI (r : List Int) : enc (tupI r) = .tuple (r.map PyData.int) := by
  unfold enc; rw [toPy_tupI]
theorem ltI_lt : ∀ a b : List Int, ltI a b = decide (a < b)
  | [], [] => by simp [ltI]
  | [], y :: ys => by simp [ltI]
  | x :: xs, [] => by simp [ltI]
  | x :: xs, y :: ys => by
    unfold ltI
    rw [ltI_lt xs ys, Bool.eq_iff_iff]
    simp [List.cons_lt_cons_iff]
theorem leD_tupI (a b : List Int) : leD (tupI a) (tupI b) = leI a b := by
  unfold leD leI
  rw [enc_tupI, enc_tupI, PySem.W.dataLt_tuple, ltI_lt, ← PySem.W.dataLt_ints]
  rfl
theorem insD_rows (a : List Int) : ∀ rs : List (List Int), insD leD (tupI a) (rs.map tupI) = (insI a rs).map tupI
  | [] => rfl
  | b :: r => by
    simp only [List.map_cons, insD, insI, leD_tupI]
    split
    · rfl
    · rw [insD_rows a r]; rfl
theorem sortD_rows : ∀ rs : List (List Int), sortD (rs.map tupI) = (isortI rs).map tupI
  | [] => rfl
  | a :: r => by
    show insD leD (tupI a) (sortD (r.map tupI)) = (insI a (isortI r)).map tupI
    rw [sortD_rows r, insD_rows]
theorem ltI_irrefl : ∀ a : List Int, ltI a a = false
  | [] => rfl
  | x :: xs => by simp [ltI, ltI_irrefl xs]
theorem ltI_trans : ∀ a b c : List Int, ltI a b = true → ltI b c = true → ltI a c = true
  | [], [], _, h, _ => by simp [ltI] at h
  | [], _ :: _, [], _, h => by simp [ltI] at h
  | [], _ :: _, _ :: _, _, _ => rfl
  | _ :: _, [], _, h, _ => by simp [ltI] at h
  | _ :: _, _ :: _, [], _, h => by simp [ltI] at h
  | x :: xs, y :: ys, z :: zs, h1, h2 => by
    simp only [ltI, Bool.or_eq_true, Bool.and_eq_true, decide_eq_true_eq] at h1 h2 ⊢
    rcases h1 with h1 | ⟨rfl, h1⟩
    · rcases h2 with h2 | ⟨rfl, h2⟩
      · exact .inl (by omega)
      · exact .inl h1
    · rcases h2 with h2 | ⟨rfl, h2⟩
      · exact .inl h2
      · exact .inr ⟨rfl, ltI_trans xs ys zs h1 h2⟩
theorem ltI_tri : ∀ a b : List Int, ltI a b = true ∨ a = b ∨ ltI b a = true
  | [], [] => .inr (.inl rfl)
  | [], _ :: _ => .inl rfl
  | _ :: _, [] => .inr (.inr rfl)
  | x :: xs, y :: ys => by
    simp only [ltI, Bool.or_eq_true, Bool.and_eq_true, decide_eq_true_eq, List.cons.injEq]
    rcases Int.lt_trichotomy x y with h | h | h
    · exact .inl (.inl h)
    · subst h
      rcases ltI_tri xs ys with h | h | h
      · exact .inl (.inr ⟨rfl, h⟩)
      · exact .inr (.inl ⟨rfl, h⟩)
      · exact .inr (.inr (.inr ⟨rfl, h⟩))
    · exact .inr (.inr (.inl h))
theorem leI_tot (a b : List Int) : (leI a b || leI b a) = true := by
  unfold leI
  rcases ltI_tri a b with h | h | h
  · have : ltI b a = false := by
      cases h2 : ltI b a with
      | false => rfl
      | true => rw [← ltI_irrefl a, ltI_trans _ _ _ h h2]
    simp [this]
  · subst h; simp [ltI_irrefl]
  · have : ltI a b = false := by
      cases h2 : ltI a b with
      | false => rfl
      | true => rw [← ltI_irrefl a, ltI_trans _ _ _ h2 h]
    simp [this]
theorem leI_trans (a b c : List Int) (h1 : leI a b = true) (h2 : leI b c = true) : leI a c = true := by
  unfold leI at *
  simp only [Bool.not_eq_true'] at *
  rcases ltI_tri a b with h | h | h
  · cases h3 : ltI c a with
    | false => rfl
    | true => have := ltI_trans _ _ _ h3 h; rw [h2] at this; cases this
  · subst h; exact h2
  · rw [h1] at h; cases h
theorem leI_anti (a b : List Int) (h1 : leI a b = true) (h2 : leI b a = true) : a = b := by
  unfold leI at *
  simp only [Bool.not_eq_true'] at *
  rcases ltI_tri a b with h | h | h
  · rw [h2] at h; cases h
  · exact h
  · rw [h1] at h; cases h
theorem insI_perm (a : List Int) : ∀ l, (insI a l).Perm (a :: l)
  | [] => .refl _
  | b :: r => by
    unfold insI
    split
    · exact .refl _
    · exact ((insI_perm a r).cons b).trans (.swap a b r)
theorem isortI_perm : ∀ l, (isortI l).Perm l
  | [] => .refl _
  | a :: r => (insI_perm a _).trans ((isortI_perm r).cons a)
theorem insI_sorted (a : List Int) : ∀ l, l.Pairwise (fun x y => leI x y = true) → (insI a l).Pairwise (fun x y => leI x y = true)
  | [], _ => by simp [insI]
  | b :: r, h => by
    unfold insI
    obtain ⟨h1, h2⟩ := List.pairwise_cons.mp h
    split
    · rename_i hab
      refine List.pairwise_cons.mpr ⟨fun c hc => ?_, h⟩
      rcases List.mem_cons.mp hc with rfl | hc
      · exact hab
      · exact leI_trans _ _ _ hab (h1 c hc)
    · rename_i hab
      refine List.pairwise_cons.mpr ⟨fun c hc => ?_, insI_sorted a r h2⟩
      rcases List.mem_cons.mp ((insI_perm a r).mem_iff.mp hc) with rfl | hc
      · have := leI_tot c b
        simp [hab] at this
        exact this
      · exact h1 c hc
theorem isortI_sorted : ∀ l, (isortI l).Pairwise (fun x y => leI x y = true)
  | [] => .nil
  | a :: r => insI_sorted a _ (isortI_sorted r)
/-- two lists in order with the same items, as often -/
theorem sorted_unique : ∀ {a b : List (List Int)}, a.Pairwise (fun x y => leI x y = true) → b.Pairwise (fun x y => leI x y = true) → a.Perm b → a = b
  | [], b, _, _, p => by rw [List.nil_perm.mp p]
  | x :: xs, [], _, _, p => by simp at p
  | x :: xs, y :: ys, h1, h2, p => by
    obtain ⟨g1, g2⟩ := List.pairwise_cons.mp h1
    obtain ⟨k1, k2⟩ := List.pairwise_cons.mp h2
    have e : x = y := by
      have hx : x ∈ y :: ys := p.mem_iff.mp List.mem_cons_self
      have hy : y ∈ x :: xs := p.mem_iff.mpr List.mem_cons_self
      rcases List.mem_cons.mp hx with rfl | hx
      · rfl
      · rcases List.mem_cons.mp hy with rfl | hy
        · rfl
        · exact leI_anti _ _ (g1 y hy) (k1 x hx)
    subst e
    rw [sorted_unique g2 k2 ((List.perm_cons x).mp p)]
theorem isortI_of_perm {a b : List (List Int)} (p : a.Perm b) : isortI a = isortI b :=
  sorted_unique (isortI_sorted a) (isortI_sorted b) ((isortI_perm a).trans (p.trans (isortI_perm b).symm))
theorem mem_dedupI {x : List Int} : ∀ {l : List (List Int)}, x ∈ dedupI l ↔ x ∈ l
  | [] => by simp [dedupI]
  | a :: r => by
    unfold dedupI
    split
    · rename_i h
      have h' : a ∈ dedupI r := by simpa using h
      rw [mem_dedupI, List.mem_cons]
      constructor
      · exact .inr
      · rintro (rfl | h2)
        · exact mem_dedupI.mp h'
        · exact h2
    · rw [List.mem_cons, List.mem_cons, mem_dedupI]
theorem nodup_dedupI : ∀ l : List (List Int), (dedupI l).Nodup
  | [] => .nil
  | a :: r => by
    unfold dedupI
    split
    · exact nodup_dedupI r
    · rename_i h
      exact List.nodup_cons.mpr ⟨by simpa using h, nodup_dedupI r⟩
/-- sorted(set(rows)) -/
def setSort (rs : List (List Int)) : List (List Int) := isortI (dedupI rs)
theorem setSort_of {a b : List (List Int)} (n : a.Nodup) (h : ∀ x, x ∈ a ↔ x ∈ b) : isortI a = setSort b :=
  isortI_of_perm ((List.perm_ext_iff_of_nodup n (nodup_dedupI b)).mpr fun x => (h x).trans mem_dedupI.symm)
theorem alikeAll_ints : ∀ a b : List Int, PySem.W.alikeAll (a.map PyData.int) (b.map PyData.int) = true
  | [], _ => by simp [PySem.W.alikeAll]
  | _ :: _, [] => by simp [PySem.W.alikeAll]
  | x :: xs, y :: ys => by simp [PySem.W.alikeAll, PySem.W.alike, alikeAll_ints xs ys]
theorem sortOk_rows {rs : List (List Int)} (hl : rs.length ≤ most) (hn : ∀ r ∈ rs, r ≠ []) : sortOk (rs.map tupI) = true := by
  unfold sortOk
  simp only [Bool.and_eq_true, Bool.or_eq_true, decide_eq_true_eq, List.all_eq_true, List.length_map]
  refine ⟨⟨⟨hl, fun d hd => ?_⟩, fun a ha b hb => ?_⟩, .inl fun d hd => ?_⟩
  · obtain ⟨r, _, rfl⟩ := List.mem_map.mp hd
    rw [toPy_tupI]; rfl
  · obtain ⟨r, _, rfl⟩ := List.mem_map.mp ha
    obtain ⟨q, _, rfl⟩ := List.mem_map.mp hb
    rw [enc_tupI, enc_tupI]
    simp only [PySem.W.alike]
    exact alikeAll_ints r q
  · obtain ⟨r, hr, rfl⟩ := List.mem_map.mp hd
    rw [enc_tupI]
    cases r with
    | nil => exact absurd rfl (hn _ hr)
    | cons x xs => rfl
theorem perm_map_inv {α β : Type} {f : α → β} {l l' : List β} (p : l.Perm l') : ∀ {L : List α}, l' = L.map f → ∃ L1 : List α, L1.Perm L ∧ l = L1.map f := by
  induction p with
  | nil => intro L e; exact ⟨L, .refl _, e⟩
  | cons x p ih =>
    intro L e
    cases L with
    | nil => cases e
    | cons y L =>
      simp only [List.map_cons, List.cons.injEq] at e
      obtain ⟨L1, p1, e1⟩ := ih e.2
      exact ⟨y :: L1, p1.cons y, by rw [List.map_cons, ← e1, e.1]⟩
  | swap x y l =>
    intro L e
    cases L with
    | nil => cases e
    | cons a L =>
      cases L with
      | nil => cases e
      | cons b L =>
        simp only [List.map_cons, List.cons.injEq] at e
        exact ⟨b :: a :: L, .swap a b L, by simp [e.1, e.2.1, e.2.2]⟩
  | trans p q ih1 ih2 =>
    intro L e
    obtain ⟨L1, p1, e1⟩ := ih2 e
    obtain ⟨L2, p2, e2⟩ := ih1 e1
    exact ⟨L2, p2.trans p1, e2⟩
end RF

end

/-! ## RM -/
section
set_option maxRecDepth 100000
/-! sorted(set(xs)) as an expression. -/
namespace RF
open PySem PySem.Spec PyProof.Rows L2

section
variable {X : Cx} {T : List Addr} {m : Nat} {φ : List Addr} {S : Store} {H : Hp}
theorem rows_ks {K : PySem.W.Frag} : ∀ {xs : List V} {ds : List D} {rs : List (List Int)}, Reps K φ H xs ds → rowsI ds = some rs → ∃ ks : List (Addr × List Int), xs = ks.map (fun p => V.ref p.1) ∧ ks.map (·.2) = rs ∧ ∀ p ∈ ks, TupAt K H p.1 (p.2.map V.int)
  | _, _, rs, .nil, e => by cases e; exact ⟨[], rfl, rfl, by simp⟩
  | _, _, rs, .cons (d := d) (ds := ds) r t, e => by
    simp only [rowsI] at e
    cases h : rowI d with
    | none => rw [h] at e; cases e
    | some r0 =>
      cases h2 : rowsI ds with
      | none => rw [h, h2] at e; cases e
      | some rs' =>
        rw [h, h2] at e; cases e
        obtain ⟨ks, e1, e2, e3⟩ := rows_ks t h2
        have hd := rowI_inv h
        subst hd
        obtain ⟨a, xs, rfl, ta, ra⟩ := r.tup_inv
        have ex : xs = r0.map V.int := intsOf_reps ra (intsOf_ints r0)
        subst ex
        refine ⟨(a, r0) :: ks, by simp [e1], by simp [e2], fun p hp => ?_⟩
        rcases List.mem_cons.mp hp with rfl | hp
        · exact ta
        · exact e3 p hp
theorem reps_ints {K : PySem.W.Frag} : ∀ is : List Int, Reps K φ H (is.map V.int) (is.map D.int)
  | [] => .nil
  | i :: is => .cons (.int i) (reps_ints is)
/-- behind set(xs): the set, and what it holds -/
def SetAtD (X : Cx) (T : List Addr) (φ : List Addr) (S : Store) (rs : List (List Int)) (v : V) (H : Hp) : Prop :=
  ∃ a L, v = .ref a ∧ H a = some (SetTO X.prog X.w a L) ∧ Rel (ctOf X T) φ S H ∧ (∀ p ∈ L, TupAt X.K H p.1 (p.2.map V.int)) ∧ ∀ r, r ∈ L.map (·.2) ↔ r ∈ rs
def setG (ds : List D) (S : Store) : Option (List (List Int)) := match ds with
  | [d] => match lstD S d with
    | some xs => match rowsI xs with
      | some rs => if rs.length < 64 then if (rs.all fun r => !r.isEmpty) = true then some rs else none else none
      | none => none
    | none => none
  | _ => none
theorem setG_inv {ds : List D} {rs : List (List Int)} (e : setG ds S = some rs) : ∃ d xs, ds = [d] ∧ lstD S d = some xs ∧ rowsI xs = some rs ∧ rs.length < 64 ∧ ∀ r ∈ rs, r ≠ [] := by
  unfold setG at e
  split at e
  · rename_i d
    split at e
    · rename_i xs h1
      split at e
      · rename_i rs' h2
        split at e
        · rename_i h3
          split at e
          · rename_i h4
            cases e
            refine ⟨d, xs, rfl, h1, h2, h3, fun r hr hn => ?_⟩
            have := List.all_eq_true.mp h4 r hr
            rw [hn] at this
            cases this
          · cases e
        · cases e
      · cases e
    · cases e
  · cases e
def rSetD (X : Cx) (T : List Addr) : List V → Hp → VK → Prop := fun xs H Q => ∃ φ S ds rs, Rel (ctOf X T) φ S H ∧ Reps X.K φ H xs ds ∧ setG ds S = some rs ∧ ∀ v H', Keep H H' → SetAtD X T φ S rs v H' → Q v H'
theorem cr_setD (hc : X.calm = true) (hr : Room m X.A) : CallR X (.type "set") (rSetD X T) := by
  intro pins s σ H xs us Q I rs ⟨φ, S, ds, rows, R, rr, e, q⟩
  obtain ⟨d, ys, rfl, h1, h2, h3, h4⟩ := setG_inv e
  obtain ⟨v, rfl, r1⟩ := reps1 rr
  obtain ⟨a, zs, rfl, hq, rz⟩ := lstD_rep R r1 h1
  obtain ⟨ks, rfl, e2, e3⟩ := rows_ks rz h2
  refine cr_setOfT hc (room64 hr) pins s σ H _ us _ I rs ⟨a, ks, rfl, hq, fun p hp => (e3 p hp).sq, ?_, fun p L hp hs hall => ?_⟩
  · have := congrArg List.length e2
    rw [List.length_map] at this
    omega
  · refine q _ _ (Keep.new hp) ⟨p, L, rfl, upd_same, R.skip hp, fun x hx => (e3 x (hs x hx)).keep (Keep.new hp), fun r => ?_⟩
    constructor
    · intro hr
      obtain ⟨x, hx, rfl⟩ := List.mem_map.mp hr
      rw [← e2]
      exact List.mem_map.mpr ⟨x, hs x hx, rfl⟩
    · intro hr
      rw [← e2] at hr
      obtain ⟨x, hx, rfl⟩ := List.mem_map.mp hr
      exact hall x hx
def rSortSetD (X : Cx) (T : List Addr) : List V → Hp → VK → Prop := fun xs H Q => ∃ φ S rs v, xs = [v] ∧ SetAtD X T φ S rs v H ∧ rs.length ≤ most ∧ (∀ r ∈ rs, r ≠ []) ∧ ∀ v H', QE (ctOf X T) φ H (S ++ [.lst ((setSort rs).map tupI)]) (.loc (List.length S)) v H' → Q v H'
theorem cr_sortSetD (hc : X.calm = true) (hr : Room m X.A) : CallR X (.builtin "sorted") (rSortSetD X T) := by
  intro pins s σ H xs us Q I rv ⟨φ, S, rs, v, e0, ⟨a, L, ev, ha, R, ht, hm⟩, hl, hn, q⟩
  subst e0
  subst ev
  rw [Vals.ref1 rv]
  have R0 : SetT0 X.prog X.w s.heap a L := (I.hok a _ ha).1
  obtain ⟨es, ep, t, RR⟩ := R0.full fun p hp => I.isT (ht p hp).sq
  obtain ⟨o, ho, hex, hd⟩ := RR.ob
  have hsz := RR.size
  have hfew := RR.few
  have hsub : ∀ p ∈ L, p.2 ∈ rs := fun p hp => (hm p.2).mp (List.mem_map.mpr ⟨p, hp, rfl⟩)
  have hne : ∀ r ∈ L.map (·.2), r ≠ [] := fun r hr => hn r ((hm r).mp hr)
  -- the sorted list is one and the same, however the set gives its items
  have key : ∀ L1 : List (Addr × List Int), L1.Perm L → sortD (L1.map fun p => tupI p.2) = (setSort rs).map tupI := fun L1 p1 => by
    have e1 : (L1.map fun p => tupI p.2) = (L1.map (·.2)).map tupI := by rw [List.map_map]; rfl
    rw [e1, sortD_rows]
    have pm := p1.map (·.2)
    rw [setSort_of (pm.nodup_iff.mpr RR.nd) fun x => (pm.mem_iff).trans (hm x)]
  have hes : es.toList.map (·.2) = L.map fun q => Value.ref q.1 := by
    rw [RR.rows]
    unfold rowsOf
    rw [List.map_map] <;> rfl
  have hok : ∀ L1 : List (Addr × List Int), L1.Perm L → sortOk (L1.map fun p => tupI p.2) = true := fun L1 p1 => by
    have e1 : (L1.map fun p => tupI p.2) = (L1.map (·.2)).map tupI := by rw [List.map_map]; rfl
    rw [e1]
    refine sortOk_rows ?_ fun r hr => hne r ((p1.map (·.2)).mem_iff.mp hr)
    rw [List.length_map, p1.length_eq]
    exact Nat.le_trans (Nat.le_of_lt hfew) (by decide)
  refine thn (sorted_of (res := (setSort rs).map tupI) hr I R fun Rr hR => ?_) fun w s' ⟨z, H', I', rz, p⟩ => ⟨z, H', I', rz, q z H' p⟩
  refine collect_set (A := X.A.in1) (I.ok.hd hc) ⟨o, ho, hex.1, hd⟩ RR.fits (by unfold scanBound; omega) RR.tab.ris RR.led fun s1 vs k1 hz g1 o1 pm => ?_
  rw [hes] at pm
  obtain ⟨L1, p1, rfl⟩ := perm_map_inv pm rfl
  refine hR s1 _ (L1.map fun p => tupI p.2) ⟨k1, g1, o1⟩ (hok L1 p1) (key L1 p1) (eachIs_at (by simp) fun i x y hx hy => ?_)
  rw [List.getElem?_map] at hx hy
  cases hi : L1[i]? with
  | none => rw [hi] at hx; cases hx
  | some p =>
    rw [hi] at hx hy
    cases hx
    cases hy
    have hp : p ∈ L := p1.mem_iff.mp (List.mem_of_getElem? hi)
    exact ⟨.ref p.1, rfl, .tup (ht p hp) (reps_ints p.2)⟩
/-- sorted(set(e)) -/
def sortSetE (fa : EV) : EV := fun σ S => match fa σ S with
  | some (d, S1) => match setG [d] S1 with
    | some rs => some (.loc (List.length S1), S1 ++ [.lst ((setSort rs).map tupI)])
    | none => none
  | none => none
theorem se_sortSet {e : Expr} {fa : EV} {p1 p2 p3 p4 : Pos} (hc : X.calm = true) (hr : Room m X.A) (hg1 : Gl X "sorted") (hm1 : X.mg "sorted" = none) (hg2 : Gl X "set") (hm2 : X.mg "set" = none) (he : SE T X e fa) (hst : starEach [e] X.env = (false, eval e X.env) :: starEach [] X.env) :
    SE T X (.Call (.Name "sorted" p1) [.Call (.Name "set" p2) [e] [] p3] [] p4) (sortSetE fa) := by
  refine PE.weak (pe_callB (cr_sortSetD (T := T) hc hr) hg1 hm1 boot_sorted (pa_cons (pe_callTy (cr_setD (T := T) hc hr) hg2 hm2 boot_set (pa_cons he pa_nil hst) (he := hst)) pa_nil)) fun σ H Q ⟨φ, σD, S, d, S', R, L, e, q⟩ => ?_
  unfold sortSetE at e
  split at e
  · rename_i d1 S1 e1
    split at e
    · rename_i rs e2
      cases e
      obtain ⟨_, xs, _, h1, h2, h3, h4⟩ := setG_inv e2
      refine ⟨φ, σD, S, d1, S1, R, L, e1, fun v H1 ⟨φ1, g1, k1, R1, r1⟩ => ?_⟩
      refine ⟨φ1, S1, [d1], rs, R1, .cons r1 .nil, e2, fun u H2 k2 hs => ?_⟩
      exact ⟨φ1, S1, rs, u, rfl, hs, Nat.le_trans (Nat.le_of_lt h3) (by decide), h4, fun w H3 p => q w H3 (p.later g1 (k1.trans k2))⟩
    · cases e
  · cases e
end
end RF

end

/-! ## RN -/
section
set_option maxRecDepth 100000
/-! repr(bool), dict(pairs), the call of a built-in by its name. -/
namespace RF
open PySem PySem.Spec PyProof.Rows L2

section
variable {X : Cx} {T : List Addr} {m : Nat} {φ : List Addr} {S : Store} {H : Hp} {pins : List (Addr × Obj)} {σ : L2.St} {s : Shared}
def reprG : GC := fun ds S => match ds with
  | [.bl b] => some (.str (if b then "True" else "False"), S)
  | [.non] => some (.str "None", S)
  | [.int i] => if i.natAbs < 2 ^ 64 then some (.str (toString i), S) else none
  | _ => none
theorem does_repr : DoesCall T X (.builtin "repr") reprG := by
  intro pins s σ H φ S xs us ds d S' I R rr rs e
  unfold reprG at e
  split at e
  · rename_i b
    cases e
    obtain ⟨v, rfl, r1⟩ := reps1 rr
    obtain ⟨u, rfl, ru⟩ := vals1 rs
    rw [r1.bl_inv] at ru
    obtain rfl : u = Value.bool b := ru
    exact PySem.P.repr_of_bool ⟨.str _, H, I.tok _, ⟨_, rfl⟩, .here R (.str _)⟩
  · cases e
    obtain ⟨v, rfl, r1⟩ := reps1 rr
    obtain ⟨u, rfl, ru⟩ := vals1 rs
    rw [r1.non_inv] at ru
    obtain rfl : u = Value.none := ru
    exact PySem.P.repr_of_none ⟨.str _, H, I.tok _, ⟨_, rfl⟩, .here R (.str _)⟩
  · rename_i i
    split at e
    · rename_i hi
      cases e
      obtain ⟨v, rfl, r1⟩ := reps1 rr
      refine SkE.call_repr_int pins s σ H _ us _ I rs ⟨i, by rw [r1.int_inv], ?_, .here R (.str _)⟩
      have : i.natAbs.log2 < 64 := by
        by_cases h0 : i.natAbs = 0
        · rw [h0]; decide
        · exact (Nat.log2_lt h0).mpr hi
      omega
    · cases e
  · cases e

/-! ### dict([(k, v), ..]), the keys tuples -/
def pairsD : List D → Option (List (D × D))
  | [] => some []
  | .tup [k, v] :: ds => match pairsD ds with
    | some r => some ((k, v) :: r)
    | none => none
  | _ :: _ => none
def putAll (kvs ps : List (D × D)) : List (D × D) := ps.foldl (fun acc p => putD acc p.1 p.2) kvs
def dictG : GC := fun ds S => match ds with
  | [d] => match lstD S d with
    | some xs => match pairsD xs with
      | some ps => if ps.length ≤ most then if (ps.all fun p => (tkD p.1).isSome) = true then some (.loc (List.length S), S ++ [.dct (putAll [] ps)]) else none else none
      | none => none
    | none => none
  | _ => none
/-- the pairs as they stand in the heap -/
inductive PairsAt (K : PySem.W.Frag) (φ : List Addr) (H : Hp) (h : Heap) : List Value → List (D × D) → List (Addr × Addr × Value × NestedKey) → Prop
  | nil : PairsAt K φ H h [] [] []
  | cons {t b : Addr} {u : Value} {k : NestedKey} {v : V} {a d : D} {us : List Value} {ps : List (D × D)} {qs : List (Addr × Addr × Value × NestedKey)} : h.IsTuple t #[.ref b, u] → tkD a = some k → Rep K φ H (.ref b) a → RelV v u → Rep K φ H v d → PairsAt K φ H h us ps qs → PairsAt K φ H h (.ref t :: us) ((a, d) :: ps) ((t, b, u, k) :: qs)
theorem isTup_tuple {h : Heap} {a : Addr} {its : Array Value} (t : IsTup h a its) : h.IsTuple a its := by
  obtain ⟨o, e, c, n, d⟩ := t
  exact ⟨o, e, c, n, d⟩
theorem pairsAt (I : Inv X pins σ H s) : ∀ {xs : List V} {us : List Value} {ds : List D} {ps : List (D × D)}, Vals xs us → Reps X.K φ H xs ds → pairsD ds = some ps → (ps.all fun p => (tkD p.1).isSome) = true → ∃ qs, PairsAt X.K φ H s.heap us ps qs
  | _, _, [], ps, .nil, .nil, e, _ => by cases e; exact ⟨[], .nil⟩
  | _, _, d :: ds, ps, .cons rv rvs, .cons r rs, e, ha => by
    unfold pairsD at e
    split at e
    · rename_i h; cases h
    · rename_i k v ds' heq
      cases heq
      split at e
      · rename_i r' hr'
        cases e
        simp only [List.all_cons, Bool.and_eq_true] at ha
        obtain ⟨qs, hq⟩ := pairsAt I rvs rs hr' ha.2
        obtain ⟨t, ys, rfl, ta, ra⟩ := r.tup_inv
        obtain rfl := (show _ = Value.ref t from rv)
        obtain ⟨x, y, rfl, r1, r2⟩ := reps2 ra
        obtain ⟨k', hk⟩ := Option.isSome_iff_exists.mp ha.1
        obtain ⟨its, rvi, pl, _⟩ := I.tuple ta.sq
        obtain ⟨u1, u2, rfl, q1, q2⟩ := rvi.two
        obtain ⟨b, rfl, rfl⟩ := key_ref hk r1 q1
        exact ⟨(t, b, u2, k') :: qs, .cons (isTup_tuple pl) hk r1 q2 r2 hq⟩
      · cases e
    · cases e
theorem PairsAt.length {K : PySem.W.Frag} {h : Heap} : ∀ {us : List Value} {ps : List (D × D)} {qs : List (Addr × Addr × Value × NestedKey)}, PairsAt K φ H h us ps qs → us.length = ps.length ∧ qs.length = ps.length
  | _, _, _, .nil => ⟨rfl, rfl⟩
  | _, _, _, .cons _ _ _ _ _ t => by simp [t.length.1, t.length.2]
theorem PairsAt.at {K : PySem.W.Frag} {h : Heap} : ∀ {us : List Value} {ps : List (D × D)} {qs : List (Addr × Addr × Value × NestedKey)} {i : Nat} {q : Addr × Addr × Value × NestedKey}, PairsAt K φ H h us ps qs → qs[i]? = some q → us[i]? = some (.ref q.1) ∧ h.IsTuple q.1 #[.ref q.2.1, q.2.2.1] ∧ ∃ a, tkD a = some q.2.2.2 ∧ Rep K φ H (.ref q.2.1) a
  | _, _, _, _, _, .nil, e => by simp at e
  | _, _, _, 0, _, .cons h1 h2 h3 _ _ _, e => by
    simp at e
    subst e
    exact ⟨rfl, h1, _, h2, h3⟩
  | _, _, _, i + 1, _, .cons _ _ _ _ _ t, e => by
    obtain ⟨g1, g2, g3⟩ := PairsAt.at (i := i) t (by simpa using e)
    exact ⟨by simpa using g1, g2, g3⟩
theorem putD_tk {kvs : List (D × D)} {x v : D} {k : NestedKey} (h : tkD x = some k) : putD kvs x v = putBy tkD k x v kvs := by
  unfold putD
  have : dKey x = none := by
    cases e : dKey x with
    | none => rfl
    | some k' => exact (not_both e (by rw [h]; rfl)).elim
  rw [this, h]
theorem PairsAt.stored {K : PySem.W.Frag} {h : Heap} : ∀ {us : List Value} {ps : List (D × D)} {qs : List (Addr × Addr × Value × NestedKey)} {acc : List (NestedKey × Addr × Value)} {kvs : List (D × D)}, PairsAt K φ H h us ps qs → EntsT K φ H acc kvs →
    EntsT K φ H (storedAllH acc (qs.map fun q => (q.2.2.2, q.2.1, q.2.2.1))) (putAll kvs ps)
  | _, _, _, _, _, .nil, E => E
  | _, _, _, acc, kvs, .cons (k := k) _ h2 h3 h4 h5 t, E => by
    have E1 := E.put h2 h3 h4 h5
    have := t.stored E1
    show EntsT K φ H (storedAllH (storedH acc k _ _) _) (putAll (putD kvs _ _) _)
    rw [putD_tk h2]
    exact this
theorem storedAllH_length : ∀ (ps acc : List (NestedKey × Addr × Value)), (storedAllH acc ps).length ≤ acc.length + ps.length
  | [], acc => Nat.le_refl _
  | p :: ps, acc => by
    have h1 := storedAllH_length ps (storedH acc p.1 p.2.1 p.2.2)
    have h2 := storedH_length acc p.1 p.2.1 p.2.2
    show (storedAllH (storedH acc p.1 p.2.1 p.2.2) ps).length ≤ acc.length + (ps.length + 1)
    omega
theorem room_in {k : Nat} {A : Around} {P : Program} {w : World} (r : Room k A) : (nestedKind P w).room A.in1.in1 := by
  have := r.un
  show A.units + 1 + 1 + 8 < cLine
  omega
theorem does_dict (hc : X.calm = true) (hr : Room m X.A) : DoesCall T X (.type "dict") dictG := by
  intro pins s σ H φ S xs us ds d S' I R rr rs e
  unfold dictG at e
  split at e
  · rename_i d'
    obtain ⟨v, rfl, r1⟩ := reps1 rr
    split at e
    · rename_i ys hy
      split at e
      · rename_i ps hp
        split at e
        · rename_i hl
          split at e
          · rename_i ha
            cases e
            obtain ⟨a, zs, rfl, hq, rz⟩ := lstD_rep R r1 hy
            obtain ⟨u, rfl, ru⟩ := vals1 rs
            obtain rfl : u = Value.ref a := ru
            obtain ⟨its, rv, pl, hz⟩ := I.list hq
            obtain ⟨qs, hQ⟩ := pairsAt I rv rz hp ha
            obtain ⟨l1, l2⟩ := hQ.length
            obtain ⟨o0, n0, e0, c0, d0, da0⟩ := pl
            let psV : List (Value × Value) := qs.map fun q => (Value.ref q.2.1, q.2.2.1)
            let Ts : Nat → Addr := fun j => ((qs[j]?).map (·.1)).getD 0
            have hps : psV.length = ps.length := by rw [List.length_map]; exact l2
            refine call_dict_pairsH (knd := nestedKind X.prog X.w) (ps := qs.map fun q => (q.2.2.2, q.2.1, q.2.2.1)) (PairArg.list a its.toArray Ts psV) (I.ok.hd hc) (room_in hr) ⟨⟨o0, n0, e0, c0, d0, da0⟩, ?_, ?_⟩ ⟨?_, ?_⟩ ?_ ?_ ?_
            · rw [hps, List.size_toArray]; exact l1
            · intro j k v hj
              rw [List.getElem?_map] at hj
              cases hqj : qs[j]? with
              | none => rw [hqj] at hj; cases hj
              | some q =>
                rw [hqj] at hj
                cases hj
                obtain ⟨g1, g2, g3⟩ := hQ.at hqj
                have hT : Ts j = q.1 := by simp [Ts, hqj]
                rw [hT]
                exact ⟨by simpa using g1, .inl g2⟩
            · rw [List.length_map, hps]; exact l2
            · intro i key v hrel
              have hrel' : psV[i]? = some (key, v) := hrel
              rw [List.getElem?_map] at hrel'
              cases hqi : qs[i]? with
              | none => rw [hqi] at hrel'; cases hrel'
              | some q =>
                rw [hqi] at hrel'
                cases hrel'
                exact ⟨q.2.2.2, q.2.1, by rw [List.getElem?_map, hqi]; rfl, rfl⟩
            · intro h' hk x hx
              obtain ⟨q, hq', rfl⟩ := List.mem_map.mp hx
              obtain ⟨i, hi⟩ := List.mem_iff_getElem?.mp hq'
              obtain ⟨_, _, a0, ha0, ra0⟩ := hQ.at hi
              have I' : Inv X pins σ H { s with heap := h' } := by
                refine I.kept (t' := s.toks) fun b o e => hk b o (fun z => ?_) (by simp) e
                exact absurd (Heap.lt_size e) (by rw [z]; exact Nat.lt_irrefl _)
              exact rep_key I' ra0 ha0
            · rw [hps]; exact most_line hl
            · intro h' tk hd hk
              have hf : H s.heap.objs.size = none := I.hok.fresh (Nat.le_refl _)
              have kp : ∀ b o, s.heap.get? b = some o → h'.get? b = some o := fun b o e => hk b o (by simp) e
              have hns : (s.heap.objs.size == sysModules) = false := by
                exact beq_eq_false_iff_ne.mpr (Nat.ne_of_gt I.big)
              have E : EntsT X.K φ H (storedAllH [] (qs.map fun q => (q.2.2.2, q.2.1, q.2.2.1))) (putAll [] ps) := hQ.stored .nil
              have hlen : (storedAllH ([] : List (NestedKey × Addr × Value)) (qs.map fun q => (q.2.2.2, q.2.1, q.2.2.1))).length ≤ sizeLine := by
                have := storedAllH_length (qs.map fun q => (q.2.2.2, q.2.1, q.2.2.1)) ([] : List (NestedKey × Addr × Value))
                rw [List.length_map, l2] at this
                exact most_line (Nat.le_trans this (by simpa using hl))
              have J : Inv X pins σ (upd H s.heap.objs.size (KD X.prog X.w s.heap.objs.size _)) { s with heap := h', toks := tk } := I.laid (t' := tk) kp (Nat.le_refl _) (kd_new hns hlen hd)
              refine ⟨.ref s.heap.objs.size, _, J, rfl, φ ++ [s.heap.objs.size], List.prefix_append _ _, Keep.new hf, R.new hf (.inr ⟨_, upd_same, E.mono (List.prefix_append _ _) (Keep.new hf)⟩), .loc ?_⟩
              rw [← R.len]
              simp
          · cases e
        · cases e
      · cases e
    · cases e
  · cases e
end
end RF

end

/-! ## RO -/
section
set_option maxRecDepth 100000
/-! Statements by data: flows, blocks, if, while, for. -/
namespace RF
open PySem PySem.Spec PyProof.Rows L2

inductive Fl where
  | nx | brk | cont | ret (d : D)
abbrev SV := Slots → Store → Option (Fl × Slots × Store)
abbrev GV := D → Slots → Store → Option (Slots × Store)
abbrev GVs := List D → Slots → Store → Option (Slots × Store)
section
variable (c : Ct)
def Out (φ : List Addr) (H : Hp) (r : Fl) (σD' : Slots) (S' : Store) (De : Ends) : Prop :=
  ∀ φ' σ' H', φ <+: φ' → Keep H H' → Rel c φ' S' H' → match r with
    | .nx => SlotRel c.K φ' H' σD' σ' → De.nx σ' H'
    | .brk => SlotRel c.K φ' H' σD' σ' → De.bk σ' H'
    | .cont => SlotRel c.K φ' H' σD' σ' → De.ct σ' H'
    | .ret d => ∀ v, Rep c.K φ' H' v d → De.rt v H'
def tS (f : SV) : TS := fun De σ H => ∃ φ σD S r σD' S', Rel c φ S H ∧ SlotRel c.K φ H σD σ ∧ f σD S = some (r, σD', S') ∧ Out c φ H r σD' S' De
def tG (g : GV) : TG := fun v σ H Q => ∃ φ σD S d σD' S', Rel c φ S H ∧ SlotRel c.K φ H σD σ ∧ Rep c.K φ H v d ∧ g d σD S = some (σD', S') ∧ ∀ φ' σ' H', φ <+: φ' → Keep H H' → Rel c φ' S' H' → SlotRel c.K φ' H' σD' σ' → Q σ' H'
def tGs (g : GVs) : TGs := fun vs σ H Q => ∃ φ σD S ds σD' S', Rel c φ S H ∧ SlotRel c.K φ H σD σ ∧ Reps c.K φ H vs ds ∧ g ds σD S = some (σD', S') ∧ ∀ φ' σ' H', φ <+: φ' → Keep H H' → Rel c φ' S' H' → SlotRel c.K φ' H' σD' σ' → Q σ' H'
end
abbrev SS (T : List Addr) (X : Cx) (st : Stmt) (f : SV) : Prop := PS X st (tS (ctOf X T) f)
abbrev SSs (T : List Addr) (X : Cx) (st : List Stmt) (f : SV) : Prop := PSs X st (tS (ctOf X T) f)
abbrev SG (T : List Addr) (X : Cx) (tg : Expr) (g : GV) : Prop := PG X tg (tG (ctOf X T) g)
abbrev SGs (T : List Addr) (X : Cx) (tg : List Expr) (g : GVs) : Prop := PGs X tg (tGs (ctOf X T) g)
theorem PS.weak {X : Cx} {e : Stmt} {t u : TS} (h : PS X e t) (w : ∀ De σ H, u De σ H → t De σ H) : PS X e u := ⟨fun pins s σ H De I q => h.run pins s σ H De I (w De σ H q)⟩
theorem PSs.weak {X : Cx} {e : List Stmt} {t u : TS} (h : PSs X e t) (w : ∀ De σ H, u De σ H → t De σ H) : PSs X e u := ⟨fun pins s σ H De I q => h.run pins s σ H De I (w De σ H q)⟩
theorem PG.weak {X : Cx} {e : Expr} {t u : TG} (h : PG X e t) (w : ∀ v σ H Q, u v σ H Q → t v σ H Q) : PG X e u := ⟨fun pins s σ H v x Q I r q => h.run pins s σ H v x Q I r (w v σ H Q q)⟩
theorem PGs.weak {X : Cx} {e : List Expr} {t u : TGs} (h : PGs X e t) (w : ∀ v σ H Q, u v σ H Q → t v σ H Q) : PGs X e u := ⟨fun pins s σ H v x Q I r q => h.run pins s σ H v x Q I r (w v σ H Q q)⟩

section
variable {X : Cx} {T : List Addr} {c : Ct} {φ φ' : List Addr} {H H' : Hp} {r : Fl} {σD : Slots} {S : Store} {De : Ends} {pos : Pos}
theorem Out.later (h : Out c φ H r σD S De) (hφ : φ <+: φ') (hk : Keep H H') : Out c φ' H' r σD S De := fun φ2 σ2 H2 h1 k1 R1 => h φ2 σ2 H2 (hφ.trans h1) (hk.trans k1) R1
theorem Out.nx {σ : L2.St} (h : Out c φ H .nx σD S De) (R : Rel c φ S H) (L : SlotRel c.K φ H σD σ) : De.nx σ H := h φ σ H (List.prefix_refl _) (Keep.refl _) R L
theorem Out.bk {σ : L2.St} (h : Out c φ H .brk σD S De) (R : Rel c φ S H) (L : SlotRel c.K φ H σD σ) : De.bk σ H := h φ σ H (List.prefix_refl _) (Keep.refl _) R L
theorem Out.ct {σ : L2.St} (h : Out c φ H .cont σD S De) (R : Rel c φ S H) (L : SlotRel c.K φ H σD σ) : De.ct σ H := h φ σ H (List.prefix_refl _) (Keep.refl _) R L

/-! ### small statements -/
def passV : SV := fun σ S => some (.nx, σ, S)
def breakV : SV := fun σ S => some (.brk, σ, S)
def contV : SV := fun σ S => some (.cont, σ, S)
def retNV : SV := fun σ S => some (.ret .non, σ, S)
def retV (f : EV) : SV := fun σ S => match f σ S with
  | some (d, S1) => some (.ret d, σ, S1)
  | none => none
def dropV (f : EV) : SV := fun σ S => match f σ S with
  | some (_, S1) => some (.nx, σ, S1)
  | none => none
def seqV (f g : SV) : SV := fun σ S => match f σ S with
  | some (.nx, σ1, S1) => g σ1 S1
  | r => r
def ifV (t : BV) (f g : SV) : SV := fun σ S => match t σ S with
  | some (true, S1) => f σ S1
  | some (false, S1) => g σ S1
  | none => none
theorem ss_pass : SS T X (.Pass pos) passV := PS.weak ps_pass fun De σ H ⟨φ, σD, S, r, σD', S', R, L, e, o⟩ => by cases e; exact o.nx R L
theorem ss_break : SS T X (.Break pos) breakV := PS.weak ps_break fun De σ H ⟨φ, σD, S, r, σD', S', R, L, e, o⟩ => by cases e; exact o.bk R L
theorem ss_cont : SS T X (.Continue pos) contV := PS.weak ps_continue fun De σ H ⟨φ, σD, S, r, σD', S', R, L, e, o⟩ => by cases e; exact o.ct R L
theorem ss_retN : SS T X (.Return none pos) retNV := PS.weak ps_retN fun De σ H ⟨φ, σD, S, r, σD', S', R, L, e, o⟩ => by
  cases e
  exact o φ σ H (List.prefix_refl _) (Keep.refl _) R .non .non
theorem ss_ret {e : Expr} {f : EV} (h : SE T X e f) : SS T X (.Return (some e) pos) (retV f) := PS.weak (ps_ret h) fun De σ H ⟨φ, σD, S, r, σD', S', R, L, e, o⟩ => by
  unfold retV at e
  split at e
  · rename_i d S1 e1
    cases e
    exact ⟨φ, σD, S, d, S', R, L, e1, fun v H' ⟨φ', h1, k1, R1, r1⟩ => o φ' σ H' h1 k1 R1 v r1⟩
  · cases e
theorem ss_expr {e : Expr} {f : EV} (h : SE T X e f) (hs : swapsWith e none pos.line X.env = pure false) : SS T X (.Expr e pos) (dropV f) := PS.weak (ps_expr h hs) fun De σ H ⟨φ, σD, S, r, σD', S', R, L, e, o⟩ => by
  unfold dropV at e
  split at e
  · rename_i d S1 e1
    cases e
    exact ⟨φ, σD, S, d, S', R, L, e1, fun v H' ⟨φ', h1, k1, R1, r1⟩ => o φ' σ H' h1 k1 R1 (L.mono h1 k1)⟩
  · cases e
theorem sss_nil : SSs T X [] passV := PSs.weak pss_nil fun De σ H ⟨φ, σD, S, r, σD', S', R, L, e, o⟩ => by cases e; exact o.nx R L
theorem sss_cons {st : Stmt} {rest : List Stmt} {f g : SV} (h1 : SS T X st f) (h2 : SSs T X rest g) : SSs T X (st :: rest) (seqV f g) :=
  PSs.weak (pss_cons h1 h2) fun De σ H ⟨φ, σD, S, r, σD', S', R, L, e, o⟩ => by
    unfold seqV at e
    split at e
    · rename_i σ1 S1 e1
      exact ⟨φ, σD, S, .nx, σ1, S1, R, L, e1, fun φ1 σ1' H1 h1 k1 R1 L1 => ⟨φ1, σ1, S1, r, σD', S', R1, L1, e, o.later h1 k1⟩⟩
    · rename_i hn
      refine ⟨φ, σD, S, r, σD', S', R, L, e, fun φ1 σ1' H1 h1 k1 R1 => ?_⟩
      cases r with
      | nx => exact absurd e (hn _ _)
      | brk => exact o φ1 σ1' H1 h1 k1 R1
      | cont => exact o φ1 σ1' H1 h1 k1 R1
      | ret d => exact o φ1 σ1' H1 h1 k1 R1
theorem ss_if {t : Expr} {a b : List Stmt} {tv : BV} {f g : SV} (ht : ST T X t tv) (ha : SSs T X a f) (hb : SSs T X b g) : SS T X (.If t a b pos) (ifV tv f g) :=
  PS.weak (ps_if ht ha hb) fun De σ H ⟨φ, σD, S, r, σD', S', R, L, e, o⟩ => by
    unfold ifV at e
    split at e
    · rename_i S1 e1
      refine ⟨φ, σD, S, true, S1, R, L, e1, fun k H' ⟨φ', h1, k1, R1, r1⟩ => ?_⟩
      subst r1
      rw [if_pos rfl]
      exact ⟨φ', σD, S1, r, σD', S', R1, L.mono h1 k1, e, o.later h1 k1⟩
    · rename_i S1 e1
      refine ⟨φ, σD, S, false, S1, R, L, e1, fun k H' ⟨φ', h1, k1, R1, r1⟩ => ?_⟩
      subst r1
      rw [if_neg Bool.false_ne_true]
      exact ⟨φ', σD, S1, r, σD', S', R1, L.mono h1 k1, e, o.later h1 k1⟩
    · cases e

/-! ### while -/
def whileV (t : BV) (b : SV) : Nat → SV
  | 0 => fun _ _ => none
  | n + 1 => fun σ S => match t σ S with
    | some (false, S1) => some (.nx, σ, S1)
    | some (true, S1) => match b σ S1 with
      | some (.nx, σ2, S2) => whileV t b n σ2 S2
      | some (.cont, σ2, S2) => whileV t b n σ2 S2
      | some (.brk, σ2, S2) => some (.nx, σ2, S2)
      | some (.ret d, σ2, S2) => some (.ret d, σ2, S2)
      | none => none
    | none => none
theorem ss_while {t : Expr} {body : List Stmt} {tv : BV} {f : SV} (n : Nat) (hp : PassesOwn (model X.prog X.w) X.A X.env X.xe) (ht : ST T X t tv) (hb : SSs T X body f) : SS T X (.While t body [] pos) (whileV tv f n) :=
  PS.weak (ps_while hp ht hb) fun De σ H ⟨φ, σD, S, r, σD', S', R, L, e, o⟩ => by
    refine ⟨fun m σ1 H1 => ∃ φ1 σD1 S1, φ <+: φ1 ∧ Keep H H1 ∧ Rel (ctOf X T) φ1 S1 H1 ∧ SlotRel X.K φ1 H1 σD1 σ1 ∧ whileV tv f m σD1 S1 = some (r, σD', S'), ⟨n, φ, σD, S, List.prefix_refl _, Keep.refl _, R, L, e⟩, ?_⟩
    rintro m σ1 H1 ⟨φ1, σD1, S1, h1, k1, R1, L1, e1⟩
    cases m with
    | zero => cases e1
    | succ m =>
      unfold whileV at e1
      split at e1
      · rename_i S2 e2
        cases e1
        refine ⟨φ1, _, S1, false, _, R1, L1, e2, fun k H2 ⟨φ2, h2, k2, R2, r2⟩ => ?_⟩
        subst r2
        rw [if_neg Bool.false_ne_true]
        exact o φ2 σ1 H2 (h1.trans h2) (k1.trans k2) R2 (L1.mono h2 k2)
      · rename_i S2 e2
        refine ⟨φ1, σD1, S1, true, S2, R1, L1, e2, fun k H2 ⟨φ2, h2, k2, R2, r2⟩ => ?_⟩
        subst r2
        rw [if_pos rfl]
        refine ⟨fun σ3 H3 => ∃ φ3 σD3 S3, φ <+: φ3 ∧ Keep H H3 ∧ Rel (ctOf X T) φ3 S3 H3 ∧ SlotRel X.K φ3 H3 σD3 σ3 ∧ whileV tv f m σD3 S3 = some (r, σD', S'), fun σ3 H3 q => ⟨m, Nat.lt_succ_self m, q⟩, ?_⟩
        have L2' := L1.mono h2 k2
        split at e1
        · rename_i σ3 S3 e3
          exact ⟨φ2, σD1, S2, .nx, σ3, S3, R2, L2', e3, fun φ3 σ3' H3 h3 k3 R3 L3 => ⟨φ3, σ3, S3, (h1.trans h2).trans h3, (k1.trans k2).trans k3, R3, L3, e1⟩⟩
        · rename_i σ3 S3 e3
          exact ⟨φ2, σD1, S2, .cont, σ3, S3, R2, L2', e3, fun φ3 σ3' H3 h3 k3 R3 L3 => ⟨φ3, σ3, S3, (h1.trans h2).trans h3, (k1.trans k2).trans k3, R3, L3, e1⟩⟩
        · rename_i σ3 S3 e3
          cases e1
          exact ⟨φ2, σD1, S2, .brk, σD', S', R2, L2', e3, fun φ3 σ3' H3 h3 k3 R3 L3 => o φ3 σ3' H3 ((h1.trans h2).trans h3) ((k1.trans k2).trans k3) R3 L3⟩
        · rename_i d σ3 S3 e3
          cases e1
          exact ⟨φ2, σD1, S2, .ret d, σD', S', R2, L2', e3, fun φ3 σ3' H3 h3 k3 R3 => o φ3 σ3' H3 ((h1.trans h2).trans h3) ((k1.trans k2).trans k3) R3⟩
        · cases e1
      · cases e1

/-! ### for -/
/-- what a loop walks -/
inductive Src where
  | seq (n : Nat)
  | tup (ds : List D)
  | rng (lo : Int) (n : Nat)
  | enu (s : Src)
  | zip (s t : Src)
/-- the i-th item; none: not known; some none: the end -/
def nextS (S : Store) : Src → Nat → Option (Option D)
  | .seq n, i => match (S : List O)[n]? with
    | some (.lst ds) => some ds[i]?
    | some (.fro ds) => some ds[i]?
    | _ => none
  | .tup ds, i => some ds[i]?
  | .rng lo n, i => some (if i < n then some (.int (lo + i)) else none)
  | .enu s, i => match nextS S s i with
    | some (some d) => some (some (.tup [.int i, d]))
    | some none => some none
    | none => none
  | .zip s t, i => match nextS S s i with
    | some (some d) => match nextS S t i with
      | some (some e) => some (some (.tup [d, e]))
      | some none => some none
      | none => none
    | some none => some none
    | none => none
def StepOk (c : Ct) (J : It) (i : Nat) (φ1 : List Addr) (S : Store) (H : Hp) : Option (Option D) → Prop
  | some none => J.stop i H
  | some (some d) => J.go i H ∧ ∀ x H', J.yld i H x H' → ∃ φ2, φ1 <+: φ2 ∧ Keep H H' ∧ Rel c φ2 S H' ∧ Rep c.K φ2 H' x d
  | none => True
def MatchIt (c : Ct) (J : It) (src : Src) (φ : List Addr) (H0 : Hp) : Prop := ∀ (i : Nat) (φ1 : List Addr) (S : Store) (H : Hp), φ <+: φ1 → Keep H0 H → Rel c φ1 S H → StepOk c J i φ1 S H (nextS S src i)
abbrev IV := Slots → Store → Option (Src × Store)
def tI (c : Ct) (f : IV) : TI := fun σ H R => ∃ φ σD S src S', Rel c φ S H ∧ SlotRel c.K φ H σD σ ∧ f σD S = some (src, S') ∧ ∀ J φ' H', φ <+: φ' → Keep H H' → Rel c φ' S' H' → MatchIt c J src φ' H' → R J H'
abbrev SI (T : List Addr) (X : Cx) (tg iter : Expr) (f : IV) : Prop := PI X tg iter (tI (ctOf X T) f)
theorem PI.weak {X : Cx} {tg e : Expr} {t u : TI} (h : PI X tg e t) (w : ∀ σ H R, u σ H R → t σ H R) : PI X tg e u := ⟨fun pins s σ H R I q => h.run pins s σ H R I (w σ H R q)⟩
def forV (src : Src) (g : GV) (b : SV) : Nat → Nat → SV
  | 0, _ => fun _ _ => none
  | n + 1, i => fun σ S => match nextS S src i with
    | none => none
    | some none => some (.nx, σ, S)
    | some (some d) => match g d σ S with
      | none => none
      | some (σ1, S1) => match b σ1 S1 with
        | some (.nx, σ2, S2) => forV src g b n (i + 1) σ2 S2
        | some (.cont, σ2, S2) => forV src g b n (i + 1) σ2 S2
        | some (.brk, σ2, S2) => some (.nx, σ2, S2)
        | some (.ret d, σ2, S2) => some (.ret d, σ2, S2)
        | none => none
def forIV (fi : IV) (g : GV) (b : SV) (n : Nat) : SV := fun σ S => match fi σ S with
  | some (src, S1) => forV src g b n 0 σ S1
  | none => none
theorem ss_for {tg iter : Expr} {body : List Stmt} {fi : IV} {g : GV} {f : SV} (n : Nat) (hp : PassesOwn (model X.prog X.w) X.A X.env X.xe) (hc : X.calm = true) (hi : SI T X tg iter fi) (hg : SG T X tg g) (hb : SSs T X body f)
    (hs : ∀ x, foldedSetIterable iter X.env x = pure x) : SS T X (.For tg iter body [] pos) (forIV fi g f n) :=
  PS.weak (ps_for hp hc hi hg hb hs) fun De σ H ⟨φ, σD, S, r, σD', S', R, L, e, o⟩ => by
    unfold forIV at e
    split at e
    · rename_i src S0 e0
      refine ⟨φ, σD, S, src, S0, R, L, e0, fun J φ0 H0 h0 k0 R0 M => ?_⟩
      refine ⟨fun i m σ1 H1 => ∃ φ1 σD1 S1, φ0 <+: φ1 ∧ Keep H0 H1 ∧ Rel (ctOf X T) φ1 S1 H1 ∧ SlotRel X.K φ1 H1 σD1 σ1 ∧ forV src g f m i σD1 S1 = some (r, σD', S'), ⟨n, φ0, σD, S0, List.prefix_refl _, Keep.refl _, R0, L.mono h0 k0, e⟩, ?_⟩
      rintro i m σ1 H1 ⟨φ1, σD1, S1, h1, k1, R1, L1, e1⟩
      cases m with
      | zero => cases e1
      | succ m =>
        have hM := M i φ1 S1 H1 h1 k1 R1
        unfold forV at e1
        split at e1
        · cases e1
        · rename_i e2
          rw [e2] at hM
          cases e1
          exact .inl ⟨hM, o φ1 σ1 H1 (h0.trans h1) (k0.trans k1) R1 L1⟩
        · rename_i d e2
          rw [e2] at hM
          replace hM : J.go i H1 ∧ ∀ x H', J.yld i H1 x H' → ∃ φ2, φ1 <+: φ2 ∧ Keep H1 H' ∧ Rel (ctOf X T) φ2 S1 H' ∧ Rep X.K φ2 H' x d := hM
          refine .inr ⟨hM.1, fun σ3 H3 => ∃ φ3 σD3 S3, φ0 <+: φ3 ∧ Keep H0 H3 ∧ Rel (ctOf X T) φ3 S3 H3 ∧ SlotRel X.K φ3 H3 σD3 σ3 ∧ forV src g f m (i + 1) σD3 S3 = some (r, σD', S'), fun σ3 H3 q => ⟨m, Nat.lt_succ_self m, q⟩, fun x H2 hy => ?_⟩
          obtain ⟨φ2, h2, k2, R2, r2⟩ := hM.2 x H2 hy
          split at e1
          · cases e1
          · rename_i σ3 S3 e3
            refine ⟨φ2, σD1, S1, d, σ3, S3, R2, L1.mono h2 k2, r2, e3, fun φ3 σ3' H3 h3 k3 R3 L3 => ?_⟩
            have hp' := ((h0.trans h1).trans h2).trans h3
            have kp' := ((k0.trans k1).trans k2).trans k3
            have hp0 := (h1.trans h2).trans h3
            have kp0 := (k1.trans k2).trans k3
            split at e1
            · rename_i σ4 S4 e4
              exact ⟨φ3, σ3, S3, .nx, σ4, S4, R3, L3, e4, fun φ4 σ4' H4 h4 k4 R4 L4 => ⟨φ4, σ4, S4, hp0.trans h4, kp0.trans k4, R4, L4, e1⟩⟩
            · rename_i σ4 S4 e4
              exact ⟨φ3, σ3, S3, .cont, σ4, S4, R3, L3, e4, fun φ4 σ4' H4 h4 k4 R4 L4 => ⟨φ4, σ4, S4, hp0.trans h4, kp0.trans k4, R4, L4, e1⟩⟩
            · rename_i σ4 S4 e4
              cases e1
              exact ⟨φ3, σ3, S3, .brk, σD', S', R3, L3, e4, fun φ4 σ4' H4 h4 k4 R4 L4 => o φ4 σ4' H4 (hp'.trans h4) (kp'.trans k4) R4 L4⟩
            · rename_i d' σ4 S4 e4
              cases e1
              exact ⟨φ3, σ3, S3, .ret d', σD', S', R3, L3, e4, fun φ4 σ4' H4 h4 k4 R4 => o φ4 σ4' H4 (hp'.trans h4) (kp'.trans k4) R4⟩
            · cases e1
    · cases e
end
end RF

end

/-! ## RP -/
section
set_option maxRecDepth 100000
/-! Targets, stores, del, op=, by data. -/
namespace RF
open PySem PySem.Spec PyProof.Rows L2

section
variable {X : Cx} {T : List Addr} {m : Nat} {pos : Pos} {C : Cfg} {N : List Str} {sc : Scope} {lv : Nat}
/-! ### targets -/
def setV (i : Nat) : GV := fun d σ S => some (List.set σ i (some d), S)
theorem locS_fn (xb : XB C N sc lv X) {x : Str} (h : locS sc x = true) : X.fn x = true ∨ X.env.scope.names.lookup x = some .local := by
  unfold locS at h
  split at h
  · rename_i e; exact .inr ((xb.sr x _ e).1 (by decide))
  · rename_i e; exact .inl (xb.fnok x e)
  · cases h
theorem sg_name (xb : XB C N sc lv X) {x : Str} {i : Nat} (hi : ixOf N x = some i) (hl : locS sc x = true) : SG T X (.Name x pos) (setV i) :=
  PG.weak (pg_name xb.nd (by rw [xb.hN]; exact ixOf_get hi) (locS_loc xb.sr hl) (locS_fn xb hl)) fun v σ H Q ⟨φ, σD, S, d, σD', S', R, L, r, e, q⟩ => by
    cases e
    exact q φ _ H (List.prefix_refl _) (Keep.refl _) R (L.set i r)
def nilV : GVs := fun ds σ S => match ds with
  | [] => some (σ, S)
  | _ => none
def consV (g : GV) (h : GVs) : GVs := fun ds σ S => match ds with
  | d :: r => match g d σ S with
    | some (σ1, S1) => h r σ1 S1
    | none => none
  | [] => none
theorem sgs_nil : SGs T X [] nilV := PGs.weak pgs_nil fun v σ H Q ⟨φ, σD, S, ds, σD', S', R, L, r, e, q⟩ => by
  unfold nilV at e
  split at e
  · cases e
    cases r
    exact ⟨rfl, q φ σ H (List.prefix_refl _) (Keep.refl _) R L⟩
  · cases e
theorem sgs_cons {e : Expr} {es : List Expr} {g : GV} {h : GVs} (h1 : SG T X e g) (h2 : SGs T X es h) (hs : (assignEach (e :: es) X.env).map (·.2) = assign e X.env :: (assignEach es X.env).map (·.2)) : SGs T X (e :: es) (consV g h) :=
  PGs.weak (pgs_cons h1 h2 hs) fun v σ H Q ⟨φ, σD, S, ds, σD', S', R, L, r, e, q⟩ => by
    unfold consV at e
    split at e
    · rename_i d rest
      split at e
      · rename_i σ1 S1 e1
        cases r with
        | cons r rs =>
          exact ⟨_, _, rfl, φ, σD, S, d, σ1, S1, R, L, r, e1, fun φ1 σ1' H1 g1 k1 R1 L1 => ⟨φ1, σ1, S1, rest, σD', S', R1, L1, rs.mono g1 k1, e, fun φ2 σ2 H2 g2 k2 R2 L2 => q φ2 σ2 H2 (g1.trans g2) (k1.trans k2) R2 L2⟩⟩
      · cases e
    · cases e
def unpackV (n : Nat) (h : GVs) : GV := fun d σ S => match d with
  | .tup ds => if ds.length = n then h ds σ S else none
  | _ => none
theorem sg_tup {es : List Expr} {k : Nat} {h : GVs} {n : Nat} (hc : X.calm = true) (hs : SGs T X es h) (hn : (assignEach es X.env).length = n) (hst : (assignEach es X.env).findIdx? (·.1) = none) : SG T X (.Tuple es k pos) (unpackV n h) :=
  PG.weak (pg_tup hc hs hn hst) fun v σ H Q ⟨φ, σD, S, d, σD', S', R, L, r, e, q⟩ => by
    unfold unpackV at e
    split at e
    · rename_i ds
      split at e
      · rename_i hl
        obtain ⟨a, xs, rfl, t, rs⟩ := r.tup_inv
        exact ⟨a, xs, rfl, t.sq, by rw [rs.length]; exact hl, φ, σD, S, ds, σD', S', R, L, rs, e, q⟩
      · cases e
    · cases e

/-! ### o[i] = v -/
def putS (o i v : D) (S : Store) : Option Store := match o with
  | .loc n => match (S : List O)[n]? with
    | some (.dct kvs) => if kindOk kvs i = true then if kvs.length ≤ most then some (List.set S n (.dct (putD kvs i v))) else none else none
    | some (.lst ds) => match i with
      | .int k => match ixN ds.length k with
        | some j => some (List.set S n (.lst (ds.set j v)))
        | none => none
      | _ => none
    | _ => none
  | _ => none
def rPut (c : Ct) : TSet := fun o i v H Q => ∃ φ S dx di dv S', Rel c φ S H ∧ Rep c.K φ H o dx ∧ Rep c.K φ H i di ∧ Rep c.K φ H v dv ∧ putS dx di dv S = some S' ∧ ∀ H', Keep H H' → Rel c φ S' H' → Q H'
theorem set_put (hr : Room m X.A) : PSet X (rPut (ctOf X T)) := by
  intro pins s σ H o i v ov iv u Q I ro ri rv ⟨φ, S, dx, di, dv, S', R, r1, r2, r3, e, q⟩
  unfold putS at e
  split at e
  · rename_i n
    obtain ⟨a, rfl, ea⟩ := r1.loc_inv
    split at e
    · rename_i kvs hk
      split at e
      · rename_i h1
        split at e
        · rename_i h2
          cases e
          obtain rfl : ov = Value.ref a := ro
          exact thn (dict_put hr I R ea hk r2 ri r3 rv h1 h2) fun _ s' ⟨H', I', K', R'⟩ => ⟨H', I', q H' K' R'⟩
        · cases e
      · cases e
    · rename_i ds hk
      split at e
      · rename_i k
        split at e
        · rename_i j hj
          cases e
          obtain ⟨xs, hx, rs⟩ := R.obj _ _ _ ea hk
          have kp : Keep H (upd H a (.lst (xs.set j v))) := (R.obj _ _ _ ea hk).keep
          refine set_list pins s σ H _ _ v ov iv u _ I ro ri rv ⟨a, xs, k, j, rfl, r2.int_inv, hx, by rw [rs.length]; exact hj, q _ kp (R.write ea hk rfl ⟨_, upd_same, (rs.set r3 j).mono (List.prefix_refl _) kp⟩)⟩
        · cases e
      · cases e
    · cases e
  · cases e
def subV (fo fi : EV) : GV := fun d σ S => match fo σ S with
  | some (o, S1) => match fi σ S1 with
    | some (i, S2) => match putS o i d S2 with
      | some S3 => some (σ, S3)
      | none => none
    | none => none
  | none => none
theorem sg_sub (hr : Room m X.A) {o i : Expr} {fo fi : EV} (ho : SE T X o fo) (hi : SE T X i fi) (ha : ∀ v, assign (.Subscript o i pos) X.env v = (do
      let ov ← holding [v] (eval o X.env)
      let iv ← holding [v, ov] (eval i X.env)
      standAt pos
      holding [v, ov, iv] (setItem ov iv v)
      release [v, ov, iv] [])) : SG T X (.Subscript o i pos) (subV fo fi) :=
  PG.weak (pg_sub ho hi (set_put (T := T) hr) ha) fun v σ H Q ⟨φ, σD, S, d, σD', S', R, L, r, e, q⟩ => by
    unfold subV at e
    split at e
    · rename_i x S1 e1
      split at e
      · rename_i y S2 e2
        split at e
        · rename_i S3 e3
          cases e
          refine ⟨φ, σD, S, x, S1, R, L, e1, fun xv H1 ⟨φ1, g1, k1, R1, r1⟩ => ?_⟩
          refine ⟨φ1, σD, S1, y, S2, R1, L.mono g1 k1, e2, fun yv H2 ⟨φ2, g2, k2, R2, r2⟩ => ?_⟩
          refine ⟨φ2, S2, x, y, d, S', R2, r1.mono g2 k2, r2, (r.mono g1 k1).mono g2 k2, e3, fun H3 k3 R3 => ?_⟩
          exact q φ2 σ H3 (g1.trans g2) ((k1.trans k2).trans k3) R3 (((L.mono g1 k1).mono g2 k2).mono (List.prefix_refl _) k3)
        · cases e
      · cases e
    · cases e
/-! ### target = value -/
def asgV (f : EV) (g : GV) : SV := fun σ S => match f σ S with
  | some (d, S1) => match g d σ S1 with
    | some (σ2, S2) => some (.nx, σ2, S2)
    | none => none
  | none => none
theorem tS_asg {f : EV} {g : GV} {De : Ends} {σ : L2.St} {H : Hp} (h : tS (ctOf X T) (asgV f g) De σ H) : tAsg (tE (ctOf X T) f) (tG (ctOf X T) g) De σ H := by
  obtain ⟨φ, σD, S, r, σD', S', R, L, e, o⟩ := h
  unfold asgV at e
  split at e
  · rename_i d S1 e1
    split at e
    · rename_i σ2 S2 e2
      cases e
      refine ⟨φ, σD, S, d, S1, R, L, e1, fun v H1 ⟨φ1, g1, k1, R1, r1⟩ => ?_⟩
      exact ⟨φ1, σD, S1, d, σD', S', R1, L.mono g1 k1, r1, e2, fun φ2 σ2' H2 g2 k2 R2 L2 => o φ2 σ2' H2 (g1.trans g2) (k1.trans k2) R2 L2⟩
    · cases e
  · cases e
theorem ss_asg {tg e : Expr} {f : EV} {g : GV} (he : SE T X e f) (hg : SG T X tg g) (hs : swapsWithSole [tg] e pos.line X.env = pure false) (hw : swappedStores [tg] e X.env = pure none) (h1 : (assignEach [tg] X.env).map (·.2) = [assign tg X.env]) : SS T X (.Assign [tg] e pos) (asgV f g) :=
  PS.weak (ps_asg he hg hs hw h1) fun De σ H h => tS_asg h
/-- a, b = x, y with names -/
def parV (i j : Nat) (fa : AV) : SV := fun σ S => match fa σ S with
  | some ([x, y], S1) => some (.nx, List.set (List.set σ i (some x)) j (some y), S1)
  | _ => none
theorem ss_par {i j : Nat} {x y : Str} {a b : Expr} {fa : AV} {px py pt : Pos} {kt k2 pt2} (xb : XB C N sc lv X) (hi : ixOf N x = some i) (hj : ixOf N y = some j) (hij : i ≠ j)
    (hx : X.env.scope.names.lookup x = some .local) (hy : X.env.scope.names.lookup y = some .local) (ha : SA T X [a, b] fa)
    (hw : swappedStores [.Tuple [.Name x px, .Name y py] kt pt] (.Tuple [a, b] k2 pt2) X.env = pure (some [x, y])) :
    SS T X (.Assign [.Tuple [.Name x px, .Name y py] kt pt] (.Tuple [a, b] k2 pt2) pos) (parV i j fa) :=
  PS.weak (ps_par xb.calm xb.nd (by rw [xb.hN]; exact ixOf_get hi) (by rw [xb.hN]; exact ixOf_get hj) hij hx hy ha hw) fun De σ H ⟨φ, σD, S, r, σD', S', R, L, e, o⟩ => by
    unfold parV at e
    split at e
    · rename_i d1 d2 S1 e1
      cases e
      refine ⟨φ, σD, S, _, S', R, L, e1, fun vs H1 ⟨φ1, g1, k1, R1, r1⟩ => ?_⟩
      obtain ⟨v, u, rfl, q1, q2⟩ := reps2 r1
      exact ⟨v, u, rfl, o φ1 _ H1 g1 k1 R1 (((L.mono g1 k1).set i q1).set j q2)⟩
    · cases e
def par3V (i j l : Nat) (fa : AV) : SV := fun σ S => match fa σ S with
  | some ([x, y, z], S1) => some (.nx, List.set (List.set (List.set σ i (some x)) j (some y)) l (some z), S1)
  | _ => none

/-! ### name op= e -/
def iopD : Operator → G2
  | .Add => intD (fun _ _ => true) fun i j => .int (i + j)
  | .Sub => intD (fun _ _ => true) fun i j => .int (i - j)
  | .Mult => intD (fun i j => decide (i.natAbs < 2 ^ 64) || decide (j.natAbs < 2 ^ 64)) fun i j => .int (i * j)
  | .BitAnd => intD (fun _ _ => true) fun i j => .int (Builtin.bitAnd i j)
  | .BitOr => intD (fun _ _ => true) fun i j => .int (Builtin.bitOr i j)
  | .BitXor => intD (fun _ _ => true) fun i j => .int (Builtin.bitXor i j)
  | _ => fun _ _ _ => none
theorem does_iop (op : Operator) : DoesOp T X (inplaceOp op) (iopD op) := by
  cases op
  case Add => exact doesOp iop_add does_int0
  case Sub => exact doesOp iop_sub does_int0
  case Mult => exact doesOp iop_mul (does_int fun _ _ => c_mul)
  case BitAnd => exact doesOp iop_and does_int0
  case BitOr => exact doesOp iop_or does_int0
  case BitXor => exact doesOp iop_xor does_int0
  all_goals exact fun _ _ _ _ _ _ _ _ _ _ _ _ _ _ _ _ _ _ _ _ e => by cases e
def augV (i : Nat) (op : Operator) (f : EV) : SV := fun σ S => match (σ : List (Option D))[i]? with
  | some (some x) => match f σ S with
    | some (y, S1) => match iopD op x y S1 with
      | some (z, S2) => some (.nx, List.set σ i (some z), S2)
      | none => none
    | none => none
  | _ => none
theorem ss_aug (xb : XB C N sc lv X) {x : Str} {i : Nat} {e : Expr} {f : EV} {op : Operator} {p : Pos} (hi : ixOf N x = some i) (hl : locS sc x = true) (he : SE T X e f) : SS T X (.AugAssign (.Name x p) op e pos) (augV i op f) :=
  PS.weak (ps_aug xb.nd (by rw [xb.hN]; exact ixOf_get hi) (locS_loc xb.sr hl) he (opR_of (does_iop (T := T) op)) (locS_fn xb hl)) fun De σ H ⟨φ, σD, S, r, σD', S', R, L, e, o⟩ => by
    unfold augV at e
    split at e
    · rename_i d hd
      split at e
      · rename_i y S1 e1
        split at e
        · rename_i z S2 e2
          cases e
          obtain ⟨v, hv, rv⟩ := L.2 i d hd
          refine ⟨v, hv, φ, σD, S, y, S1, R, L, e1, fun u H1 ⟨φ1, g1, k1, R1, r1⟩ => ?_⟩
          refine ⟨φ1, S1, d, y, z, S', R1, rv.mono g1 k1, r1, e2, fun w H2 ⟨φ2, g2, k2, R2, r2⟩ => ?_⟩
          exact o φ2 _ H2 (g1.trans g2) (k1.trans k2) R2 (((L.mono g1 k1).mono g2 k2).set i r2)
        · cases e
      · cases e
    · cases e

/-! ### del o[i] -/
def delS (o i : D) (S : Store) : Option Store := match o with
  | .loc n => match (S : List O)[n]? with
    | some (.dct kvs) => if kindOk kvs i = true then if (lookD kvs i).isSome = true then some (List.set S n (.dct (dropD kvs i))) else none else none
    | _ => none
  | _ => none
def delV (fo fi : EV) : SV := fun σ S => match fo σ S with
  | some (o, S1) => match fi σ S1 with
    | some (i, S2) => match delS o i S2 with
      | some S3 => some (.nx, σ, S3)
      | none => none
    | none => none
  | none => none
theorem ss_del (hr : Room m X.A) {o i : Expr} {fo fi : EV} {tp : Pos} (ho : SE T X o fo) (hi : SE T X i fi) : SS T X (.Delete [.Subscript o i tp] pos) (delV fo fi) := by
  refine ⟨fun pins s σ H De I ⟨φ, σD, S, r, σD', S', R, L, e, q⟩ => ?_⟩
  unfold delV at e
  split at e
  · rename_i x S1 e1
    split at e
    · rename_i y S2 e2
      split at e
      · rename_i S3 e3
        cases e
        refine wpAny_Delete (wpAny_deleteEach_cons (wpAny_delete_Subscript (thn (se_run ho I R L e1) fun u s1 ⟨xv, H1, I1, rx, φ1, g1, k1, R1, r1⟩ => thn (se_run hi I1 R1 (L.mono g1 k1) e2) fun iv s2 ⟨yv, H2, I2, ry, φ2, g2, k2, R2, r2⟩ => ?_)))
        unfold delS at e3
        split at e3
        · rename_i n
          obtain ⟨a, rfl, ea⟩ := r1.loc_inv
          obtain rfl : u = Value.ref a := rx
          have ea2 := pre_get g2 ea
          split at e3
          · rename_i kvs hk
            split at e3
            · rename_i h1
              split at e3
              · rename_i h2
                cases e3
                obtain ⟨d, hd⟩ := Option.isSome_iff_exists.mp h2
                refine thn (dict_del hr I2 R2 ea2 hk r2 ry h1 hd) fun _ s3 ⟨H3, I3, K3, R3⟩ => ?_
                exact wpAny_deleteEach_nil ⟨σ, H3, I3, q φ2 σ H3 (g1.trans g2) ((k1.trans k2).trans K3) R3 (((L.mono g1 k1).mono g2 k2).mono (List.prefix_refl _) K3)⟩
              · cases e3
            · cases e3
          · cases e3
        · cases e3
      · cases e
    · cases e
  · cases e
end
end RF

end

/-! ## RQ -/
section
set_option maxRecDepth 100000
/-! What is walked; list comprehensions, by data. -/
namespace RF
open PySem PySem.Spec PyProof.Rows L2

section
variable {X : Cx} {T : List Addr} {c : Ct} {m : Nat} {pos : Pos} {C : Cfg} {N : List Str} {sc : Scope} {lv : Nat} {tg : Expr}
/-! ### sources -/
theorem step_list {φ1 : List Addr} {S : Store} {H : Hp} {a : Addr} {i : Nat} {ds : List D} {xs : List V} (R : Rel c φ1 S H) (hq : SqL c.K H a xs) (rs : Reps c.K φ1 H xs ds) : StepOk c (Itl c.K a) i φ1 S H (some ds[i]?) := by
  cases e : ds[i]? with
  | none =>
    refine ⟨xs, hq, ?_⟩
    rw [rs.length]
    exact List.getElem?_eq_none_iff.mp e
  | some d =>
    obtain ⟨x, hx, rx⟩ := rs.get' e
    refine ⟨⟨xs, x, hq, hx⟩, ?_⟩
    rintro y H' ⟨rfl, hy⟩
    have := hy xs hq
    rw [hx] at this
    cases this
    exact ⟨φ1, List.prefix_refl _, Keep.refl _, R, rx⟩
theorem match_list {φ : List Addr} {n : Nat} {a : Addr} {H0 : Hp} (ea : φ[n]? = some a) : MatchIt c (Itl c.K a) (.seq n) φ H0 := by
  intro i φ1 S H h1 k1 R
  have ea1 := pre_get h1 ea
  unfold nextS
  split
  · rename_i ds e
    obtain ⟨xs, hx, rs⟩ := R.obj _ _ _ ea1 e
    exact step_list R (SqL.of hx) rs
  · rename_i ds e
    obtain ⟨xs, hx, rs⟩ := (R.obj _ _ _ ea1 e).fro
    exact step_list R hx rs
  · exact True.intro
theorem match_tup {φ : List Addr} {a : Addr} {H0 : Hp} {xs : List V} {ds : List D} (t : TupAt c.K H0 a xs) (rs : Reps c.K φ H0 xs ds) : MatchIt c (Itt c.K a) (.tup ds) φ H0 := by
  intro i φ1 S H h1 k1 R
  unfold nextS
  have t1 := (t.keep k1).sq
  have rs1 := rs.mono h1 k1
  cases e : ds[i]? with
  | none =>
    refine ⟨xs, t1, ?_⟩
    rw [rs1.length]
    exact List.getElem?_eq_none_iff.mp e
  | some d =>
    obtain ⟨x, hx, rx⟩ := rs1.get' e
    refine ⟨⟨xs, x, t1, hx⟩, ?_⟩
    rintro y H' ⟨rfl, hy⟩
    have := hy xs t1
    rw [hx] at this
    cases this
    exact ⟨φ1, List.prefix_refl _, Keep.refl _, R, rx⟩
theorem match_rng {φ : List Addr} {H0 : Hp} (lo : Int) (n : Nat) : MatchIt c (Itr lo n) (.rng lo n) φ H0 := by
  intro i φ1 S H h1 k1 R
  unfold nextS
  by_cases hi : i < n
  · rw [if_pos hi]
    refine ⟨hi, ?_⟩
    rintro y H' ⟨rfl, rfl⟩
    exact ⟨φ1, List.prefix_refl _, Keep.refl _, R, .int _⟩
  · rw [if_neg hi]
    exact Nat.le_of_not_lt hi
/-- a list or a tuple -/
def srcD (S : Store) : D → Option Src
  | .tup ds => some (.tup ds)
  | .loc n => match (S : List O)[n]? with
    | some (.lst _) => some (.seq n)
    | some (.fro _) => some (.seq n)
    | _ => none
  | _ => none
def seqIV (f : EV) : IV := fun σ S => match f σ S with
  | some (d, S1) => match srcD S1 d with
    | some s => some (s, S1)
    | none => none
  | none => none
theorem pi_seq {l : Expr} {tl : TE} (hl : PE X l tl) : PI X tg l (fun σ H R => tl σ H fun x H1 => ∃ a, x = .ref a ∧ (((∃ xs, SqL X.K H1 a xs) ∧ R (Itl X.K a) H1) ∨ ((∃ xs, SqT X.K H1 a xs) ∧ R (Itt X.K a) H1))) := by
  refine ⟨fun pins s σ H R I h => ?_⟩
  refine thn (hl.run pins s σ H _ I h) fun v s1 ⟨x, H1, I1, r1, q1⟩ => ?_
  obtain ⟨a, rfl, q⟩ := q1
  cases r1
  have fp : ∀ b ∈ [s1.heap.objs.size], FpOk X pins H1 b := fun b hb => by
    have e : b = s1.heap.objs.size := by simpa using hb
    subst e
    exact I1.fpOk (Nat.le_refl _) (I1.hok.fresh (Nat.le_refl _))
  rcases q with ⟨⟨xs, hq⟩, q⟩ | ⟨⟨xs, hq⟩, q⟩
  · obtain ⟨its, rv, p, hz⟩ := I1.list hq
    refine wpAny_pyIter_list p.isList ?_
    exact ⟨s1.heap.objs.size, [s1.heap.objs.size], _, _, H1, rfl, I1.kept (t' := s1.toks) fun b o e => Heap.get?_push_of_some _ e, turn_list a _, ⟨_, Heap.get?_push_size _ rfl, rfl, rfl⟩, fp, q⟩
  · obtain ⟨its, rv, p, hz⟩ := I1.tuple hq
    refine wpAny_pyIter_tuple (show s1.heap.IsTuple a its.toArray from p) ?_
    exact ⟨s1.heap.objs.size, [s1.heap.objs.size], _, _, H1, rfl, I1.kept (t' := s1.toks) fun b o e => Heap.get?_push_of_some _ e, turn_tuple a _, ⟨_, Heap.get?_push_size _ rfl, rfl, rfl⟩, fp, q⟩
theorem si_seq {l : Expr} {f : EV} (hl : SE T X l f) : SI T X tg l (seqIV f) := PI.weak (pi_seq hl) fun σ H R ⟨φ, σD, S, src, S', RR, L, e, q⟩ => by
  unfold seqIV at e
  split at e
  · rename_i d S1 e1
    split at e
    · rename_i s0 e2
      cases e
      refine ⟨φ, σD, S, d, S', RR, L, e1, fun v H1 ⟨φ1, h1, k1, R1, r1⟩ => ?_⟩
      unfold srcD at e2
      split at e2
      · cases e2
        obtain ⟨a, xs, rfl, t, rs⟩ := r1.tup_inv
        exact ⟨a, rfl, .inr ⟨⟨xs, t.sq⟩, q _ φ1 H1 h1 k1 R1 (match_tup t rs)⟩⟩
      · rename_i n
        obtain ⟨a, rfl, ea⟩ := r1.loc_inv
        split at e2
        · rename_i h
          cases e2
          obtain ⟨xs, hx, rs⟩ := R1.obj _ _ _ ea h
          exact ⟨a, rfl, .inl ⟨⟨xs, SqL.of hx⟩, q _ φ1 H1 h1 k1 R1 (match_list ea)⟩⟩
        · rename_i h
          cases e2
          obtain ⟨xs, hx, rs⟩ := (R1.obj _ _ _ ea h).fro
          exact ⟨a, rfl, .inl ⟨⟨xs, hx⟩, q _ φ1 H1 h1 k1 R1 (match_list ea)⟩⟩
        · cases e2
      · cases e2
    · cases e
  · cases e
def rg62 (i : Int) : Bool := decide (-(2 ^ 62) ≤ i) && decide (i < 2 ^ 62)
theorem rg62_iff {i : Int} : rg62 i = true ↔ -(2 ^ 62) ≤ i ∧ i < 2 ^ 62 := by unfold rg62; simp
def rng1IV (fa : AV) : IV := fun σ S => match fa σ S with
  | some ([.int j], S1) => if rg62 j = true then some (.rng 0 j.toNat, S1) else none
  | _ => none
def rng2IV (fa : AV) : IV := fun σ S => match fa σ S with
  | some ([.int i, .int j], S1) => if (rg62 i && rg62 j) = true then some (.rng i (j - i).toNat, S1) else none
  | _ => none
theorem si_range1 {a : Expr} {fa : AV} {p : Pos} (hg : Gl X "range") (hm : X.mg "range" = none) (ha : SA T X [a] fa) (hs : starEach [a] X.env = [(false, eval a X.env)]) : SI T X tg (.Call (.Name "range" p) [a] [] pos) (rng1IV fa) :=
  PI.weak (pi_range1 hg hm ha hs) fun σ H R ⟨φ, σD, S, src, S', RR, L, e, q⟩ => by
    unfold rng1IV at e
    split at e
    · rename_i j S1 e1
      split at e
      · rename_i hj
        cases e
        refine ⟨φ, σD, S, _, S', RR, L, e1, fun vs H1 ⟨φ1, h1, k1, R1, r1⟩ => ?_⟩
        obtain ⟨v, rfl, r⟩ := reps1 r1
        obtain ⟨g1, g2⟩ := rg62_iff.mp hj
        exact ⟨j, by rw [r.int_inv], g1, g2, q _ φ1 H1 h1 k1 R1 (match_rng 0 _)⟩
      · cases e
    · cases e
theorem si_range2 {a b : Expr} {fa : AV} {p : Pos} (hg : Gl X "range") (hm : X.mg "range" = none) (ha : SA T X [a, b] fa) (hs : starEach [a, b] X.env = [(false, eval a X.env), (false, eval b X.env)]) (hs2 : starEach [b] X.env = [(false, eval b X.env)]) : SI T X tg (.Call (.Name "range" p) [a, b] [] pos) (rng2IV fa) :=
  PI.weak (pi_range2 hg hm ha hs hs2) fun σ H R ⟨φ, σD, S, src, S', RR, L, e, q⟩ => by
    unfold rng2IV at e
    split at e
    · rename_i i j S1 e1
      split at e
      · rename_i hj
        cases e
        refine ⟨φ, σD, S, _, S', RR, L, e1, fun vs H1 ⟨φ1, h1, k1, R1, r1⟩ => ?_⟩
        obtain ⟨v, u, rfl, r, r'⟩ := reps2 r1
        rw [Bool.and_eq_true] at hj
        obtain ⟨g1, g2⟩ := rg62_iff.mp hj.1
        obtain ⟨g3, g4⟩ := rg62_iff.mp hj.2
        exact ⟨i, j, by rw [r.int_inv, r'.int_inv], ⟨g1, g2, g3, g4⟩, q _ φ1 H1 h1 k1 R1 (match_rng i _)⟩
      · cases e
    · cases e
/-- list(range(..)) -/
def rgL (i : Int) (n : Nat) : List D := (List.range n).map fun k => D.int (i + (k : Nat))
def listRg (fi : IV) : EV := fun σ S => match fi σ S with
  | some (.rng lo n, S1) => if n ≤ most then some (.loc (List.length S1), S1 ++ [.lst (rgL lo n)]) else none
  | _ => none
theorem reps_rg {K : PySem.W.Frag} {φ : List Addr} {H : Hp} (i : Int) : ∀ l : List Nat, Reps K φ H (l.map fun k => V.int (i + (k : Nat))) (l.map fun k => D.int (i + (k : Nat)))
  | [] => .nil
  | k :: l => .cons (.int _) (reps_rg i l)
theorem most_24 {n : Nat} (h : n ≤ most) : n ≤ 2 ^ 24 := Nat.le_trans h (by decide)
theorem se_listRg1 {a : Expr} {f : EV} {p p2 p3 : Pos} (hc : X.calm = true) (hg : Gl X "range") (hm : X.mg "range" = none) (hg2 : Gl X "list") (hm2 : X.mg "list" = none) (ha : SE T X a f) (na : starEach [a] X.env = (false, eval a X.env) :: starEach [] X.env)
    (nb : starEach [.Call (.Name "range" p) [a] [] p2] X.env = (false, eval (.Call (.Name "range" p) [a] [] p2) X.env) :: starEach [] X.env) :
    SE T X (.Call (.Name "list" p3) [.Call (.Name "range" p) [a] [] p2] [] pos) (listRg (rng1IV (consA f nilA))) :=
  PE.weak (pe_listRg hc hg2 hm2 (prg_1 hg hm ha na) nb) fun σ H Q ⟨φ, σD, S, d, S', RR, L, e, q⟩ => by
    unfold listRg at e
    split at e
    · rename_i lo n S1 e1
      split at e
      · rename_i hn
        cases e
        unfold rng1IV at e1
        split at e1
        · rename_i j S2 e2
          split at e1
          · rename_i hj
            cases e1
            unfold consA at e2
            split at e2
            · rename_i d0 S0 e3
              unfold nilA at e2
              cases e2
              refine ⟨φ, σD, S, _, _, RR, L, e3, fun v H1 ⟨φ1, h1, k1, R1, r1⟩ => ⟨j, r1.int_inv, ?_⟩⟩
              obtain ⟨g1, g2⟩ := rg62_iff.mp hj
              refine ⟨⟨by decide, by decide, g1, g2, by simpa using most_24 hn⟩, fun p hp => q _ _ ((QE.lst R1 ?_ hp).later h1 k1)⟩
              have := reps_rg (K := X.K) (φ := φ1) (H := H1) 0 (List.range j.toNat)
              simpa [rgV, rgL] using this
            · cases e2
          · cases e1
        · cases e1
      · cases e
    · cases e
end
end RF

end

/-! ## RS -/
section
set_option maxRecDepth 100000
/-! List comprehensions by data. -/
namespace RF
open PySem PySem.Spec PyProof.Rows L2

def wipeD (σ : Slots) : List Nat → Slots
  | [] => σ
  | v :: vs => List.set (wipeD σ vs) v none
section
variable {c : Ct} {φ : List Addr} {H : Hp}
theorem slot_none {K : PySem.W.Frag} {σD : Slots} {σ : L2.St} (L : SlotRel K φ H σD σ) (v : Nat) : SlotRel K φ H (List.set σD v none) (List.set σ v none) := by
  refine ⟨by rw [List.length_set, List.length_set]; exact L.1, fun i d h => ?_⟩
  by_cases hi : i = v
  · subst hi
    have hlt : i < List.length σD := by
      have := (List.getElem?_eq_some_iff.mp h).1
      rw [List.length_set] at this
      exact this
    rw [List.getElem?_set_self hlt] at h
    cases h
  · rw [List.getElem?_set_ne (Ne.symm hi)] at h
    rw [List.getElem?_set_ne (Ne.symm hi)]
    exact L.2 i d h
theorem slot_wipe {K : PySem.W.Frag} {σD : Slots} {σ : L2.St} (L : SlotRel K φ H σD σ) : ∀ vs : List Nat, SlotRel K φ H (wipeD σD vs) (wipe σ vs)
  | [] => L
  | v :: vs => slot_none (slot_wipe L vs) v
theorem wipe_get (σ : L2.St) (i : Nat) : ∀ vs : List Nat, (wipe σ vs)[i]? = if i ∈ vs then (if i < List.length σ then some none else none) else (σ : List (Option V))[i]?
  | [] => by simp [wipe]
  | v :: vs => by
    unfold wipe
    by_cases hi : v = i
    · subst hi
      simp only [List.mem_cons, true_or, if_true]
      by_cases hv : v < List.length σ
      · rw [if_pos hv, List.getElem?_set_self (by rw [wipe_length]; exact hv)]
      · rw [if_neg hv, List.getElem?_eq_none (by rw [List.length_set, wipe_length]; omega)]
    · rw [List.getElem?_set_ne hi, wipe_get σ i vs]
      have : (i ∈ v :: vs) ↔ i ∈ vs := by simp [List.mem_cons, Ne.symm hi]
      simp only [this]
theorem wipe_ext {σ σ' : L2.St} {vs : List Nat} (hl : List.length σ = List.length σ') (h : ∀ i, i ∉ vs → (σ : List (Option V))[i]? = (σ' : List (Option V))[i]?) : wipe σ vs = wipe σ' vs := by
  apply List.ext_getElem?
  intro i
  rw [wipe_get, wipe_get, hl]
  split
  · rfl
  · rename_i hi; exact h i hi
theorem wipe_set {σ : L2.St} {vs : List Nat} {i : Nat} {x : Option V} (h : i ∈ vs) : wipe (List.set σ i x) vs = wipe σ vs := by
  refine wipe_ext (by rw [List.length_set]) fun j hj => ?_
  rw [List.getElem?_set_ne]
  intro e
  exact hj (e ▸ h)
theorem wipe_wipe (σ : L2.St) (vs : List Nat) : wipe (wipe σ vs) vs = wipe σ vs := by
  refine wipe_ext (wipe_length σ vs) fun j hj => ?_
  rw [wipe_get, if_neg hj]
/-- targets that are names alone -/
def tGw (c : Ct) (vs : List Nat) (g : GV) : TG := fun v σ H Q => ∃ φ σD S d σD' S', Rel c φ S H ∧ SlotRel c.K φ H σD σ ∧ Rep c.K φ H v d ∧ g d σD S = some (σD', S') ∧ ∀ φ' σ' H', φ <+: φ' → Keep H H' → Rel c φ' S' H' → SlotRel c.K φ' H' σD' σ' → wipe σ' vs = wipe σ vs → Q σ' H'
def tGws (c : Ct) (vs : List Nat) (g : GVs) : TGs := fun v σ H Q => ∃ φ σD S d σD' S', Rel c φ S H ∧ SlotRel c.K φ H σD σ ∧ Reps c.K φ H v d ∧ g d σD S = some (σD', S') ∧ ∀ φ' σ' H', φ <+: φ' → Keep H H' → Rel c φ' S' H' → SlotRel c.K φ' H' σD' σ' → wipe σ' vs = wipe σ vs → Q σ' H'
end
abbrev SGw (T : List Addr) (X : Cx) (vs : List Nat) (tg : Expr) (g : GV) : Prop := PG X tg (tGw (ctOf X T) vs g)
abbrev SGws (T : List Addr) (X : Cx) (vs : List Nat) (tg : List Expr) (g : GVs) : Prop := PGs X tg (tGws (ctOf X T) vs g)
section
variable {X : Cx} {T : List Addr} {m : Nat} {pos : Pos} {C : Cfg} {N : List Str} {sc : Scope} {lv : Nat} {vs : List Nat}
theorem SGw.sg {tg : Expr} {g : GV} (h : SGw T X vs tg g) : SG T X tg g := PG.weak h fun v σ H Q ⟨φ, σD, S, d, σD', S', R, L, r, e, q⟩ => ⟨φ, σD, S, d, σD', S', R, L, r, e, fun φ' σ' H' h1 k1 R1 L1 _ => q φ' σ' H' h1 k1 R1 L1⟩
theorem sgw_name (xb : XB C N sc lv X) {x : Str} {i : Nat} (hi : ixOf N x = some i) (hl : locS sc x = true) (hv : i ∈ vs) : SGw T X vs (.Name x pos) (setV i) :=
  PG.weak (pg_name xb.nd (by rw [xb.hN]; exact ixOf_get hi) (locS_loc xb.sr hl) (locS_fn xb hl)) fun v σ H Q ⟨φ, σD, S, d, σD', S', R, L, r, e, q⟩ => by
    cases e
    exact q φ _ H (List.prefix_refl _) (Keep.refl _) R (L.set i r) (wipe_set hv)
theorem sgws_nil : SGws T X vs [] nilV := PGs.weak pgs_nil fun v σ H Q ⟨φ, σD, S, ds, σD', S', R, L, r, e, q⟩ => by
  unfold nilV at e
  split at e
  · cases e
    cases r
    exact ⟨rfl, q φ σ H (List.prefix_refl _) (Keep.refl _) R L rfl⟩
  · cases e
theorem sgws_cons {e : Expr} {es : List Expr} {g : GV} {h : GVs} (h1 : SGw T X vs e g) (h2 : SGws T X vs es h) (hs : (assignEach (e :: es) X.env).map (·.2) = assign e X.env :: (assignEach es X.env).map (·.2)) : SGws T X vs (e :: es) (consV g h) :=
  PGs.weak (pgs_cons h1 h2 hs) fun v σ H Q ⟨φ, σD, S, ds, σD', S', R, L, r, e, q⟩ => by
    unfold consV at e
    split at e
    · rename_i d rest
      split at e
      · rename_i σ1 S1 e1
        cases r with
        | cons r rs =>
          exact ⟨_, _, rfl, φ, σD, S, d, σ1, S1, R, L, r, e1, fun φ1 σ1' H1 g1 k1 R1 L1 w1 => ⟨φ1, σ1, S1, rest, σD', S', R1, L1, rs.mono g1 k1, e, fun φ2 σ2 H2 g2 k2 R2 L2 w2 => q φ2 σ2 H2 (g1.trans g2) (k1.trans k2) R2 L2 (w2.trans w1)⟩⟩
      · cases e
    · cases e
theorem sgw_tup {es : List Expr} {k : Nat} {h : GVs} {n : Nat} (hc : X.calm = true) (hs : SGws T X vs es h) (hn : (assignEach es X.env).length = n) (hst : (assignEach es X.env).findIdx? (·.1) = none) : SGw T X vs (.Tuple es k pos) (unpackV n h) :=
  PG.weak (pg_tup hc hs hn hst) fun v σ H Q ⟨φ, σD, S, d, σD', S', R, L, r, e, q⟩ => by
    unfold unpackV at e
    split at e
    · rename_i ds
      split at e
      · rename_i hl
        obtain ⟨a, xs, rfl, t, rs⟩ := r.tup_inv
        exact ⟨a, xs, rfl, t.sq, by rw [rs.length]; exact hl, φ, σD, S, ds, σD', S', R, L, rs, e, q⟩
      · cases e
    · cases e

/-! ### the block's context -/
/-- the same program, world, written part and names -/
structure SameP (X Y : Cx) : Prop where
  prog : Y.prog = X.prog
  w : Y.w = X.w
  K : Y.K = X.K
  mg : Y.mg = X.mg
  base : Y.base = X.base
  code : Y.env.code = X.env.code
theorem same_blk {s : Shared} {H : Hp} {scope : Scope} {cl : List (Str × Addr)} {Cc : Addr} {fp : List Addr} : SameP X (X.blk s H scope (compEnvC scope cl Cc X.env) fp) := ⟨rfl, rfl, rfl, rfl, rfl, rfl⟩
theorem relS_sr {scope sc' : Scope} : ScRel scope (relS scope sc') := by
  intro x k h
  refine ⟨fun hk => lookup_relS_keep hk h, fun hk => ?_⟩
  subst hk
  unfold relS
  have main : ∀ (names : List (Str × NameKind)), names.lookup x = some .free → (names.map fun (n, k) => if (k == NameKind.free && sc'.kind == .function && sc'.names.lookup n == some .cell) then (n, NameKind.cell) else (n, k)).lookup x = some .free ∨ (names.map fun (n, k) => if (k == NameKind.free && sc'.kind == .function && sc'.names.lookup n == some .cell) then (n, NameKind.cell) else (n, k)).lookup x = some .cell := by
    intro names
    induction names with
    | nil => intro h; simp at h
    | cons y r ih =>
      obtain ⟨n, k0⟩ := y
      intro h
      simp only [List.map_cons]
      cases hx : x == n with
      | true =>
        simp only [List.lookup_cons, hx] at h
        cases h
        by_cases hc : (NameKind.free == NameKind.free && sc'.kind == .function && sc'.names.lookup n == some .cell) = true
        · rw [if_pos hc]; simp only [List.lookup_cons, hx]; exact .inr trivial
        · rw [if_neg hc]; simp only [List.lookup_cons, hx]; exact .inl trivial
      | false =>
        simp only [List.lookup_cons, hx] at h
        by_cases hc : (k0 == NameKind.free && sc'.kind == .function && sc'.names.lookup n == some .cell) = true
        · rw [if_pos hc]; simp only [List.lookup_cons, hx]; exact ih h
        · rw [if_neg hc]; simp only [List.lookup_cons, hx]; exact ih h
  exact main _ h
theorem blk_xb (xb : XB C N sc lv X) (s : Shared) (H : Hp) (scope : Scope) (Cc : Addr) (cl : List (Str × Addr)) (fp : List Addr) : XB C N scope lv (X.blk s H scope (compEnvC scope cl Cc X.env) fp) where
  hN := xb.hN
  nd := xb.nd
  calm := xb.calm
  sr := relS_sr
  fnok := fun x h => by
    show (scope.names.lookup x == some NameKind.cell) = true
    rw [h]; rfl
  xe := rfl
  room := xb.room
  mgc := xb.mgc
  mgb := xb.mgb
theorem blk_ok (xb : XB C N sc lv X) {scope : Scope} {own : List (Str × Nat)} (h : blkC N sc scope own = true) : BlkOk X.N X.env.scope scope own := by
  have b := blkOk_by h
  rw [xb.hN]
  refine ⟨b.kind, b.uniq, b.ix, fun y hy e => ?_, b.own⟩
  rcases b.free y hy e with k | k
  · exact .inl ((xb.sr _ _ k).1 (by decide))
  · rcases (xb.sr _ _ k).2 rfl with k | k
    · exact .inr k
    · exact .inl k

/-! ### [elt for target in iter if ..] -/
def yesB : BV := fun _ S => some (true, S)
abbrev STs (T : List Addr) (X : Cx) (ifs : List Expr) (f : BV) : Prop := PTs X ifs (tT (ctOf X T) f)
theorem PTs.weak {X : Cx} {e : List Expr} {t u : TT} (h : PTs X e t) (w : ∀ σ H Q, u σ H Q → t σ H Q) : PTs X e u := ⟨fun pins s σ H Q I q => h.run pins s σ H Q I (w σ H Q q)⟩
theorem sts_nil : STs T X [] yesB := PTs.weak pts_nil fun σ H Q ⟨φ, σD, S, b, S', R, L, e, q⟩ => by
  cases e
  exact q true H ⟨φ, List.prefix_refl _, Keep.refl _, R, rfl⟩
theorem sts_one {e : Expr} {f : BV} (h : ST T X e f) : STs T X [e] f := pts_one h
def lcL (src : Src) (g : GV) (tt : BV) (fe : EV) (σw : Slots) (k : Nat) : Nat → Nat → Store → Option Store
  | 0, _, _ => none
  | n + 1, i, S => match nextS S src i with
    | none => none
    | some none => some S
    | some (some d) => match g d σw S with
      | none => none
      | some (σ2, S2) => match tt σ2 S2 with
        | none => none
        | some (false, S3) => lcL src g tt fe σw k n (i + 1) S3
        | some (true, S3) => match fe σ2 S3 with
          | none => none
          | some (y, S4) => match (S4 : List O)[k]? with
            | some (.lst acc) => if acc.length < most then lcL src g tt fe σw k n (i + 1) (List.set S4 k (.lst (acc ++ [y]))) else none
            | _ => none
def lcE (fi : IV) (g : GV) (tt : BV) (fe : EV) (vs : List Nat) (n : Nat) : EV := fun σ S => match fi σ S with
  | some (src, S1) => match lcL src g tt fe (wipeD σ vs) (List.length S1) n 0 (S1 ++ [.lst []]) with
    | some S2 => some (.loc (List.length S1), S2)
    | none => none
  | none => none
theorem tE_lc {fi : IV} {g : GV} {tt : BV} {fe : EV} {vs : List Nat} {n : Nat} {σ : L2.St} {H : Hp} {Q : VK} (h : tE (ctOf X T) (lcE fi g tt fe vs n) σ H Q) : tLc (tI (ctOf X T) fi) (tGw (ctOf X T) vs g) (tT (ctOf X T) tt) (tE (ctOf X T) fe) vs σ H Q := by
  obtain ⟨φ, σD, S, d, S', R, L, e, q⟩ := h
  unfold lcE at e
  split at e
  · rename_i src S1 e1
    split at e
    · rename_i S2 e2
      cases e
      refine ⟨φ, σD, S, src, S1, R, L, e1, fun J φ1 H1 h1 k1 R1 M D hD => ?_⟩
      have RD : Rel (ctOf X T) (φ1 ++ [D]) (S1 ++ [.lst []]) (upd H1 D (.lst [])) := R1.new hD ⟨[], upd_same, .nil⟩
      have kD : Keep H1 (upd H1 D (.lst [])) := Keep.new hD
      have eD : (φ1 ++ [D])[List.length S1]? = some D := by rw [← R1.len]; simp
      refine ⟨fun i m H2 => ∃ φ2 S3, (φ1 ++ [D]) <+: φ2 ∧ Keep H1 H2 ∧ Rel (ctOf X T) φ2 S3 H2 ∧ lcL src g tt fe (wipeD σD vs) (List.length S1) m i S3 = some S', ⟨n, φ1 ++ [D], S1 ++ [.lst []], List.prefix_refl _, kD, RD, e2⟩, ?_⟩
      rintro i m H2 ⟨φ2, S3, h2, k2, R2, e3⟩
      have hpre : φ1 <+: φ2 := (List.prefix_append _ _).trans h2
      have eD2 := pre_get h2 eD
      have L2' : SlotRel X.K φ2 H2 σD σ := (L.mono h1 k1).mono hpre k2
      cases m with
      | zero => cases e3
      | succ m =>
        have hM := M i φ2 S3 H2 hpre k2 R2
        unfold lcL at e3
        split at e3
        · cases e3
        · rename_i e4
          rw [e4] at hM
          cases e3
          exact .inl ⟨hM, q _ _ ⟨φ2, h1.trans hpre, k1.trans k2, R2, .loc eD2⟩⟩
        · rename_i d4 e4
          rw [e4] at hM
          replace hM : J.go i H2 ∧ ∀ x H', J.yld i H2 x H' → ∃ φ2', φ2 <+: φ2' ∧ Keep H2 H' ∧ Rel (ctOf X T) φ2' S3 H' ∧ Rep X.K φ2' H' x d4 := hM
          refine .inr ⟨hM.1, fun H9 => ∃ φ9 S9, (φ1 ++ [D]) <+: φ9 ∧ Keep H1 H9 ∧ Rel (ctOf X T) φ9 S9 H9 ∧ lcL src g tt fe (wipeD σD vs) (List.length S1) m (i + 1) S9 = some S', fun H9 z => ⟨m, Nat.lt_succ_self m, z⟩, fun x H5 hy => ?_⟩
          obtain ⟨φ5, h5, k5, R5, r5⟩ := hM.2 x H5 hy
          split at e3
          · cases e3
          · rename_i σ6 S6 e6
            refine ⟨φ5, wipeD σD vs, S3, d4, σ6, S6, R5, slot_wipe (L2'.mono h5 k5) vs, r5, e6, fun φ6 σ6' H6 h6 k6 R6 L6 w6 => ?_⟩
            refine ⟨w6.trans (wipe_wipe σ vs), ?_⟩
            split at e3
            · cases e3
            · rename_i S7 e7
              refine ⟨φ6, σ6, S6, false, S7, R6, L6, e7, fun b H7 ⟨φ7, h7, k7, R7, r7⟩ => ?_⟩
              subst r7
              rw [if_neg Bool.false_ne_true]
              exact ⟨φ7, S7, ((h2.trans h5).trans h6).trans h7, ((k2.trans k5).trans k6).trans k7, R7, e3⟩
            · rename_i S7 e7
              refine ⟨φ6, σ6, S6, true, S7, R6, L6, e7, fun b H7 ⟨φ7, h7, k7, R7, r7⟩ => ?_⟩
              subst r7
              rw [if_pos rfl]
              split at e3
              · cases e3
              · rename_i y S8 e8
                refine ⟨φ7, σ6, S7, y, S8, R7, L6.mono h7 k7, e8, fun v H8 ⟨φ8, h8, k8, R8, r8⟩ => ?_⟩
                have hp8 := (((h2.trans h5).trans h6).trans h7).trans h8
                have kp8 := (((k2.trans k5).trans k6).trans k7).trans k8
                split at e3
                · rename_i acc hacc
                  split at e3
                  · rename_i hl
                    obtain ⟨xs, hx, rs⟩ := R8.obj _ _ _ (pre_get hp8 eD) hacc
                    have kw : Keep H8 (upd H8 D (.lst (xs ++ [v]))) := (R8.obj _ _ _ (pre_get hp8 eD) hacc).keep
                    refine ⟨xs, hx, by rw [rs.length]; exact Nat.lt_of_lt_of_le hl (most_line (Nat.le_refl _)), φ8, _, hp8, kp8.trans kw, R8.write (o' := .lst (acc ++ [y])) (pre_get hp8 eD) hacc rfl ⟨_, upd_same, (rs.append (.cons r8 .nil)).mono (List.prefix_refl _) kw⟩, e3⟩
                  · cases e3
                · cases e3
    · cases e
  · cases e
theorem se_lc {elt tg iter : Expr} {ifs : List Expr} {scope : Scope} {own : List (Str × Nat)} {fi : IV} {g : GV} {tt : BV} {fe : EV} (n : Nat) (xb : XB C N sc lv X) (hi : SI T X tg iter fi) (ok : blkC N sc scope own = true)
    (hg : ∀ Y : Cx, XB C N scope lv Y → SameP X Y → SGw T Y (own.map (·.2)) tg g) (ht : ∀ Y : Cx, XB C N scope lv Y → SameP X Y → STs T Y ifs tt) (he : ∀ Y : Cx, XB C N scope lv Y → SameP X Y → SE T Y elt fe)
    (hs : ∀ x, foldedSetIterable iter X.env x = pure x) : SE T X (.ListComp elt [⟨tg, iter, ifs, 0⟩] scope pos) (lcE fi g tt fe (own.map (·.2)) n) :=
  PE.weak (pe_lc xb.calm xb.nd hi (blk_ok xb ok) (fun s H Cc cl fp => hg _ (blk_xb xb s H scope Cc cl fp) same_blk) (fun s H Cc cl fp => ht _ (blk_xb xb s H scope Cc cl fp) same_blk) (fun s H Cc cl fp => he _ (blk_xb xb s H scope Cc cl fp) same_blk) hs) fun σ H Q h => tE_lc h
end
end RF

end

/-! ## RT -/
section
set_option maxRecDepth 100000
/-! Dict comprehensions by data, keys tuples or not. -/
namespace RF
open PySem PySem.Spec PyProof.Rows L2

section
variable {X : Cx} {T : List Addr} {m : Nat} {pos : Pos} {C : Cfg} {N : List Str} {sc : Scope} {lv : Nat} {vs : List Nat}
/-- the store that a comprehension makes -/
theorem dict_dset {pins : List (Addr × Obj)} {σ : L2.St} {H : Hp} {s : Shared} {φ : List Addr} {S : Store} {n : Nat} {x y : V} {u w : Value} {a : Addr} {kvs : List (D × D)} {dx dz : D} {E : Value → Shared → Prop} (hr : Room m X.A) (I : Inv X pins σ H s) (R : Rel (ctOf X T) φ S H) (ea : φ[n]? = some a) (es : (S : List O)[n]? = some (.dct kvs)) (r : Rep X.K φ H x dx) (ru : RelV x u) (rz : Rep X.K φ H y dz) (rw_ : RelV y w) (hk : kindOk kvs dx = true) (hl : kvs.length ≤ most) :
    wpAny (model X.prog X.w) X.A (dictSet a u w) (fun _ s' => PU X T pins σ φ H (List.set S n (.dct (putD kvs dx dz))) s') E s := by
  obtain ⟨H1, I1, R1, K1, h⟩ := dict_open I R ea es hk
  have rz1 := rz.mono (List.prefix_refl _) K1
  have r1 := r.mono (List.prefix_refl _) K1
  have hz : kvs.length < sizeLine := Nat.lt_of_le_of_lt hl (by decide)
  rcases h with ⟨k, ks, ek, hH, E⟩ | ⟨k, xs, en, ek, hH, E⟩
  · obtain rfl : x = kV k := dKey_kV r ek
    refine d_dictSet I1 hH (by rw [E.length]; exact hz) ru rw_ fun s' I' => ?_
    have kp : Keep H1 (upd H1 a (.dK (putK ks k y))) := Keep.store hH (by intro xs z; cases z)
    refine ⟨_, I', K1.trans kp, R1.write ea es rfl (.inl ⟨_, upd_same, ?_⟩)⟩
    unfold putD
    rw [ek]
    exact (E.put ek rz1).mono (List.prefix_refl _) kp
  · obtain ⟨b, rfl, rfl⟩ := key_ref ek r ru
    obtain ⟨h1, h2, h3⟩ := kd_of I1 hH E
    have hroom : (nestedKind X.prog X.w).room X.A := by
      have := hr.un
      show X.A.units + 8 < cLine
      omega
    refine wpAny_dictSet_heap (hsz := h2) hroom (rep_key I1 r1 ek) h3 fun h' hm' hs => ?_
    obtain ⟨oo, _, _, hoo, _⟩ := id hm'
    have I2 : Inv X pins σ (upd H1 a (KD X.prog X.w a (storedH xs k b w))) { s with heap := h', toks := s.toks + (nestedKind X.prog X.w).draws k } :=
      d_write I1 (by rw [hH]; exact True.intro) hs ⟨oo, hoo⟩ (kd_new h1 (by
        have q1 := storedH_length xs k b w
        have q2 := E.length
        omega) hm')
    have kp : Keep H1 (upd H1 a (KD X.prog X.w a (storedH xs k b w))) := Keep.store hH (by intro xs z; cases z)
    refine ⟨_, I2, K1.trans kp, R1.write ea es rfl (.inr ⟨_, upd_same, ?_⟩)⟩
    unfold putD
    rw [en, ek]
    exact (E.put ek r1 rw_ rz1).mono (List.prefix_refl _) kp

def dcL (src : Src) (g : GV) (tt : BV) (fk fv : EV) (σw : Slots) (k : Nat) : Nat → Nat → Store → Option Store
  | 0, _, _ => none
  | n + 1, i, S => match nextS S src i with
    | none => none
    | some none => some S
    | some (some d) => match g d σw S with
      | none => none
      | some (σ2, S2) => match tt σ2 S2 with
        | none => none
        | some (false, S3) => dcL src g tt fk fv σw k n (i + 1) S3
        | some (true, S3) => match fk σ2 S3 with
          | none => none
          | some (y, S4) => match fv σ2 S4 with
            | none => none
            | some (z, S5) => match (S5 : List O)[k]? with
              | some (.dct kvs) => if kvs.length ≤ most then if kindOk kvs y = true then dcL src g tt fk fv σw k n (i + 1) (List.set S5 k (.dct (putD kvs y z))) else none else none
              | _ => none
def dcE (fi : IV) (g : GV) (tt : BV) (fk fv : EV) (vs : List Nat) (n : Nat) : EV := fun σ S => match fi σ S with
  | some (src, S1) => match dcL src g tt fk fv (wipeD σ vs) (List.length S1) n 0 (S1 ++ [.dct []]) with
    | some S2 => some (.loc (List.length S1), S2)
    | none => none
  | none => none
/-- a wish of exceptions that is none -/
theorem thnN {α : Type} {t : Sem α} {Q Q' : α → Shared → Prop} {M : Model} {A : Around} {E E' : Value → Shared → Prop} {s : Shared} (hE : E = fun _ _ => False) (h : wpAny M A t Q E s) (hQ : ∀ a s, Q a s → Q' a s) : wpAny M A t Q' E' s :=
  wpAny_mono h hQ fun e s z => by rw [hE] at z; exact z.elim
/-- the loop of the block Y -/
theorem dc_loop {Y : Cx} {kx vx tg iter : Expr} {ifs : List Expr} {scope : Scope} {src : Src} {g : GV} {tt : BV} {fk fv : EV} {J : It} {fp : List Addr} {it D : Addr} {tn : Nat → Heap → Prop} {φ1 φ4 : List Addr} {H1 H4 : Hp} {S4 S5 : Store} {σw : Slots} {σ4 : L2.St} {k n : Nat} {s4 : Shared} {Rr : Result → Shared → Prop}
    (hc : Y.calm = true) (hr : Room m Y.A) (hxe : Y.xe = fun _ _ => False) (hpn : Y.pn = []) (Tn : Turn Y.prog Y.w Y.K tg J fp it tn) (M : MatchIt (ctOf Y T) J src φ1 H1) (pg : SGw T Y vs tg g) (pt : STs T Y ifs tt) (pk : SE T Y kx fk) (pv : SE T Y vx fv)
    (hex : ∀ b ∈ fp, b ∈ Y.ex) (hw : wipe σ4 vs = σ4) (I4 : Inv Y [] σ4 H4 s4) (st4 : tn 0 s4.heap) (n4 : ∀ b ∈ fp, H4 b = none) (R4 : Rel (ctOf Y T) φ4 S4 H4) (L4 : SlotRel Y.K φ4 H4 σw σ4) (hp : φ1 <+: φ4) (hk : Keep H1 H4) (eD : φ4[k]? = some D)
    (e : dcL src g tt fk fv σw k n 0 S4 = some S5)
    (hend : ∀ s' H' φ', Inv Y [] σ4 H' s' → (∀ b ∈ fp, H' b = none) → Rel (ctOf Y T) φ' S5 H' → φ4 <+: φ' → Keep H4 H' → Rr (.ok .next) s') :
    codeAny (model Y.prog Y.w) Y.A (.compLoop (.DictComp kx vx [⟨tg, iter, ifs, 0⟩] scope pos) 0 (.ref it) (.ref D) Y.env) Rr s4 := by
  have stat : ∀ {σ' : L2.St} {H' : Hp} {s' : Shared}, Inv Y [] σ' H' s' → (∀ b ∈ fp, H' b = none) → ∀ b ∈ fp, FpOk Y [] H' b := fun {σ' H' s'} I' hn b hb =>
    ⟨hn b hb, (I'.ok.exf b (hex b hb)).1, I'.ok.exfs b (hex b hb), .inl (hex b hb), fun x c e => (I'.ok.exf b (hex b hb)).2 x c e, fun p hp => absurd hp (by rw [hpn]; simp)⟩
  refine compLoop_anyD (fun n' s' => ∃ i H' φ' S', Inv Y [] σ4 H' s' ∧ tn i s'.heap ∧ (∀ b ∈ fp, H' b = none) ∧ φ4 <+: φ' ∧ Keep H4 H' ∧ Rel (ctOf Y T) φ' S' H' ∧ dcL src g tt fk fv σw k n' i S' = some S5) ?_ n ⟨0, H4, φ4, S4, I4, st4, n4, List.prefix_refl _, Keep.refl _, R4, e⟩
  rintro n' s5 ⟨i, H5, φ5, S', I5, st5, n5, h5, k5, R5, e5⟩
  cases n' with
  | zero => cases e5
  | succ n' =>
    have hM := M i φ5 S' H5 (hp.trans h5) (hk.trans k5) R5
    have L5 := L4.mono h5 k5
    unfold dcL at e5
    split at e5
    · cases e5
    · rename_i e6
      rw [e6] at hM
      cases e5
      refine thnN rfl (Tn.done Y rfl rfl rfl hc i [] s5 _ H5 (fun _ _ => False) I5 (stat I5 n5) st5 hM) fun r s6 ⟨hr', I6⟩ => ?_
      subst hr'
      exact hend s6 H5 φ5 I6 n5 R5 h5 k5
    · rename_i d6 e6
      rw [e6] at hM
      replace hM : J.go i H5 ∧ ∀ x H', J.yld i H5 x H' → ∃ φ2', φ5 <+: φ2' ∧ Keep H5 H' ∧ Rel (ctOf Y T) φ2' S' H' ∧ Rep Y.K φ2' H' x d6 := hM
      refine thnN rfl (Tn.item Y rfl rfl rfl hc i [] s5 _ H5 (fun _ _ => False) I5 (stat I5 n5) st5 hM.1) fun r s6 ⟨u, hr', h6⟩ => ?_
      subst hr'
      refine thnN rfl h6 fun _ s7 ⟨x, H7, I7, r7, y7, st7, n7⟩ => ?_
      obtain ⟨φ7, h7, k7, R7, rx⟩ := hM.2 x H7 y7
      have I7' := I7.pinned (stat I7 n7) (Tn.obj _ _ st7)
      -- the turn's end
      have fin : ∀ {s' : Shared} {H' : Hp} {φ' : List Addr} {S'' : Store} {σ8 : L2.St}, Inv Y ([] ++ pinsAt fp s7.heap) σ8 H' s' → wipe σ8 vs = wipe σ4 vs → φ7 <+: φ' → Keep H7 H' → Rel (ctOf Y T) φ' S'' H' → dcL src g tt fk fv σw k n' (i + 1) S'' = some S5 →
          ∃ m', m' < n' + 1 ∧ ∃ i H' φ' S', Inv Y [] σ4 H' s' ∧ tn i s'.heap ∧ (∀ b ∈ fp, H' b = none) ∧ φ4 <+: φ' ∧ Keep H4 H' ∧ Rel (ctOf Y T) φ' S' H' ∧ dcL src g tt fk fv σw k m' i S' = some S5 := fun {s' H' φ' S'' σ8} I' hw8 g1 g2 R' e' => by
        have pin' : ∀ b ∈ fp, ∀ o, s7.heap.get? b = some o → s'.heap.get? b = some o ∧ H' b = none := fun b hb o e =>
          let z := I'.pin (b, o) (List.mem_append_right _ (List.mem_append_right _ (mem_pinsAt hb e)))
          ⟨z.1, z.2.1⟩
        have hl : List.length σ4 = List.length σ8 := by rw [← hw, ← hw8, wipe_length]
        refine ⟨n', Nat.lt_succ_self _, i + 1, H', φ', S'', (I'.unpinned (pins := [])).weak hl (fun j v ej => ?_), Tn.keep _ _ _ st7 fun b hb o e => (pin' b hb o e).1, fun b hb => ?_, (h5.trans h7).trans g1, (k5.trans k7).trans g2, R', e'⟩
        · rw [← hw, ← hw8] at ej
          exact (wipe_some ej).1
        · obtain ⟨o, e, _⟩ := Tn.obj _ _ st7 b hb
          exact (pin' b hb o e).2
      split at e5
      · cases e5
      · rename_i σ8 S8 e8
        refine thnN hxe (pg.run _ s7 σ4 H7 x u (fun σ' H' => ∃ φ', φ7 <+: φ' ∧ Keep H7 H' ∧ Rel (ctOf Y T) φ' S8 H' ∧ SlotRel Y.K φ' H' σ8 σ' ∧ wipe σ' vs = wipe σ4 vs) I7' r7 ⟨φ7, σw, S', d6, σ8, S8, R7, L5.mono h7 k7, rx, e8, fun φ' σ' H' a b c d w => ⟨φ', a, b, c, d, w⟩⟩) fun _ s8 ⟨σ8', H8, I8, φ8, h8, k8, R8, L8, w8⟩ => ?_
        split at e5
        · cases e5
        · rename_i S9 e9
          refine thnN hxe (pt.run _ s8 σ8' H8 _ I8 ⟨φ8, σ8, S8, false, S9, R8, L8, e9, fun b H' q => q⟩) fun b s9 ⟨H9, I9, φ9, h9, k9, R9, rb⟩ => ?_
          subst rb
          rw [if_neg Bool.false_ne_true]
          exact fin I9 w8 (h8.trans h9) (k8.trans k9) R9 e5
        · rename_i S9 e9
          refine thnN hxe (pt.run _ s8 σ8' H8 _ I8 ⟨φ8, σ8, S8, true, S9, R8, L8, e9, fun b H' q => q⟩) fun b s9 ⟨H9, I9, φ9, h9, k9, R9, rb⟩ => ?_
          subst rb
          rw [if_pos rfl]
          split at e5
          · cases e5
          · rename_i y S10 e10
            refine thnN hxe (se_run pk I9 R9 (L8.mono h9 k9) e10) fun kv s10 ⟨yk, H10, I10, r10, φ10, h10, k10, R10, ry⟩ => ?_
            split at e5
            · cases e5
            · rename_i z S11 e11
              refine thnN hxe (se_run pv I10 R10 ((L8.mono h9 k9).mono h10 k10) e11) fun vv s11 ⟨yv, H11, I11, r11, φ11, h11, k11, R11, rz⟩ => ?_
              have hp11 := (((h7.trans h8).trans h9).trans h10).trans h11
              split at e5
              · rename_i kvs hkvs
                split at e5
                · rename_i hl
                  split at e5
                  · rename_i hko
                    refine thn (dict_dset hr I11 R11 (pre_get (h5.trans hp11) eD) hkvs (ry.mono h11 k11) r10 rz r11 hko hl) fun _ s12 ⟨H12, I12, K12, R12⟩ => ?_
                    exact fin I12 w8 (((h8.trans h9).trans h10).trans h11) ((((k8.trans k9).trans k10).trans k11).trans K12) R12 e5
                  · cases e5
                · cases e5
              · cases e5
theorem dc_run {kx vx tg iter : Expr} {ifs : List Expr} {scope : Scope} {own : List (Str × Nat)} {fi : IV} {g : GV} {tt : BV} {fk fv : EV} {n : Nat} {use : Option (Value → Sem Unit)} {Qf : Value → Shared → Prop} {pos' : Pos} {pins : List (Addr × Obj)} {s : Shared} {σ : L2.St} {H : Hp} {φ : List Addr} {σD : Slots} {S S1 S2 : Store} {src : Src}
    (xb : XB C N sc lv X) (hi : SI T X tg iter fi) (ok : blkC N sc scope own = true)
    (hg : ∀ Y : Cx, XB C N scope lv Y → SameP X Y → SGw T Y (own.map (·.2)) tg g) (ht : ∀ Y : Cx, XB C N scope lv Y → SameP X Y → STs T Y ifs tt) (hk : ∀ Y : Cx, XB C N scope lv Y → SameP X Y → SE T Y kx fk) (hv : ∀ Y : Cx, XB C N scope lv Y → SameP X Y → SE T Y vx fv)
    (hs : ∀ x, foldedSetIterable iter X.env x = pure x) (I : Inv X pins σ H s) (R : Rel (ctOf X T) φ S H) (L : SlotRel X.K φ H σD σ) (e1 : fi σD S = some (src, S1)) (e2 : dcL src g tt fk fv (wipeD σD (own.map (·.2))) (List.length S1) n 0 (S1 ++ [.dct []]) = some S2)
    (hRR : ∀ D Cc s' mm H' φ', Inv X pins σ H' s' → φ <+: φ' → Keep H H' → Rel (ctOf X T) φ' S2 H' → φ'[List.length S1]? = some D → s'.heap.Ns Cc mm → FpOk X pins H' Cc → compPost (model X.prog X.w) X.A X.xe use Qf (.ref D) Cc (.ok .next) s') :
    wpAny (model X.prog X.w) X.A (comprehension (.DictComp kx vx [⟨tg, iter, ifs, 0⟩] scope pos) scope X.env pos' newDict false (eval iter X.env) use) Qf X.xe s := by
  have bok := blk_ok xb ok
  have hfree : ∀ y ∈ scope.names, y.2 = .free → ∃ c, X.env.cells.lookup y.1 = some c := fun y hy e => by
    rcases bok.free y hy e with k | k
    · exact I.ok.has _ (.inl k)
    · exact I.ok.has _ (.inr k)
  refine wpAny_comprehension_free (use := use) rfl hs (closure_ok hfree) bok.kind (fun y hy e => by rw [bok.uniq y hy, e])
    (thn (hi.run pins s σ H (fun J H' => ∃ φ', φ <+: φ' ∧ Keep H H' ∧ Rel (ctOf X T) φ' S1 H' ∧ MatchIt (ctOf X T) J src φ' H') I ⟨φ, σD, S, src, S1, R, L, e1, fun J φ' H' a b c d => ⟨φ', a, b, c, d⟩⟩) fun xv s1 hx => thn hx fun itv s2 h2 => ?_)
  obtain ⟨it, fp, tn, J, H2, rfl, I2, Tn, st2, f2, φ1, h1, k1, R1, M⟩ := h2
  refine wpAny_newObj_type (newEnv_comp ?_)
  have hDn : H2 s2.heap.objs.size = none := I2.hok.fresh (Nat.le_refl _)
  have I3 : Inv X pins σ (upd H2 s2.heap.objs.size (.dK [])) { s2 with heap := s2.heap.push { cls := .type "dict", data := .dict #[] } } :=
    I2.laid (t' := s2.toks) (fun b o e => Heap.get?_push_of_some _ e) (Nat.le_refl _) (dk_empty s2.heap I2.big)
  have RD : Rel (ctOf X T) (φ1 ++ [s2.heap.objs.size]) (S1 ++ [.dct []]) (upd H2 s2.heap.objs.size (.dK [])) := R1.new hDn (.inl ⟨[], upd_same, .nil⟩)
  have kD : Keep H2 (upd H2 s2.heap.objs.size (.dK [])) := Keep.new hDn
  have eD : (φ1 ++ [s2.heap.objs.size])[List.length S1]? = some s2.heap.objs.size := by rw [← R1.len]; simp
  have hsz : (s2.heap.push { cls := .type "dict", data := .dict #[] }).objs.size = s2.heap.objs.size + 1 := Heap.size_push ..
  have f3 : ∀ b ∈ fp, FpOk X pins (upd H2 s2.heap.objs.size (.dK [])) b ∧ b < (s2.heap.push { cls := .type "dict", data := .dict #[] }).objs.size := fun b hb => by
    obtain ⟨o, e, _⟩ := Tn.obj _ _ st2 b hb
    have hlt := Heap.lt_size e
    refine ⟨⟨?_, (f2 b hb).2⟩, by rw [hsz]; exact Nat.lt_succ_of_lt hlt⟩
    rw [upd_ne (Nat.ne_of_lt hlt)]
    exact (f2 b hb).1
  have I4 := block_start I3 bok xb.nd f3
  have st4 : tn 0 (pushCells ((s2.heap.push { cls := .type "dict", data := .dict #[] }).push { cls := .type "dict", data := .dict #[] }) scope.names) :=
    Tn.keep _ _ _ st2 fun b _ o e => pushCells_keeps _ _ _ _ (Heap.get?_push_of_some _ (Heap.get?_push_of_some _ e))
  have yb := blk_xb xb { s2 with heap := s2.heap.push { cls := .type "dict", data := .dict #[] } } (upd H2 s2.heap.objs.size (.dK [])) scope (s2.heap.push { cls := .type "dict", data := .dict #[] }).objs.size (cellsFrom ((s2.heap.push { cls := .type "dict", data := .dict #[] }).objs.size + 1) scope.names (cloFrom X.env.cells scope.names [])) fp
  have loop := fun Rr hend => dc_loop (T := T) (m := lv) (vs := own.map (·.2)) (iter := iter) (scope := scope) (pos := pos) (Rr := Rr) yb.calm yb.room rfl rfl Tn M (hg _ yb same_blk) (ht _ yb same_blk) (hk _ yb same_blk) (hv _ yb same_blk) (fun b hb => hb) (wipe_wipe σ _) I4 st4 (fun b hb => (f3 b hb).1.1) RD (slot_wipe ((L.mono h1 k1).mono (List.prefix_append _ _) kD) _) (List.prefix_append _ _) kD eD e2 hend
  have loop2 := loop (compPost (model X.prog X.w) X.A X.xe use Qf (.ref s2.heap.objs.size) (s2.heap.push { cls := .type "dict", data := .dict #[] }).objs.size) fun s' H' φ' I' n' R' hp' kp' => by
    have I7 : Inv X pins σ H' s' := I3.call' (ch := fp) I'.os I'.base I'.hok I'.bare fun b hb => ⟨(f3 b hb).1.2.2.2.1, (f3 b hb).1.2.1, (f3 b hb).1.2.2.2.2.1, (f3 b hb).1.2.2.2.2.2⟩
    have nC : H' (s2.heap.push { cls := .type "dict", data := .dict #[] }).objs.size = none := I'.free
    obtain ⟨mm, hn, _⟩ := I'.loc
    exact hRR _ _ s' mm H' φ' I7 ((h1.trans (List.prefix_append _ _)).trans hp') ((k1.trans kD).trans kp') R' (pre_get hp' eD) hn (I3.fpOk (Nat.le_refl _) nC)
  exact codeAny_compStart_dict loop2 (Tn.self X.A 0 _ _ _ st4 loop2)
theorem dcE_inv {fi : IV} {g : GV} {tt : BV} {fk fv : EV} {vs : List Nat} {n : Nat} {σ : Slots} {S S' : Store} {d : D} (e : dcE fi g tt fk fv vs n σ S = some (d, S')) : ∃ src S1, fi σ S = some (src, S1) ∧ dcL src g tt fk fv (wipeD σ vs) (List.length S1) n 0 (S1 ++ [.dct []]) = some S' ∧ d = .loc (List.length S1) := by
  unfold dcE at e
  split at e
  · rename_i src S1 e1
    split at e
    · rename_i S2 e2
      cases e
      exact ⟨src, S1, e1, e2, rfl⟩
    · cases e
  · cases e
theorem se_dc {kx vx tg iter : Expr} {ifs : List Expr} {scope : Scope} {own : List (Str × Nat)} {fi : IV} {g : GV} {tt : BV} {fk fv : EV} (n : Nat) (xb : XB C N sc lv X) (hi : SI T X tg iter fi) (ok : blkC N sc scope own = true)
    (hg : ∀ Y : Cx, XB C N scope lv Y → SameP X Y → SGw T Y (own.map (·.2)) tg g) (ht : ∀ Y : Cx, XB C N scope lv Y → SameP X Y → STs T Y ifs tt) (hk : ∀ Y : Cx, XB C N scope lv Y → SameP X Y → SE T Y kx fk) (hv : ∀ Y : Cx, XB C N scope lv Y → SameP X Y → SE T Y vx fv)
    (hs : ∀ x, foldedSetIterable iter X.env x = pure x) : SE T X (.DictComp kx vx [⟨tg, iter, ifs, 0⟩] scope pos) (dcE fi g tt fk fv (own.map (·.2)) n) := by
  refine PE.at fun pins s σ H φ σD S d S' I R L e => ?_
  obtain ⟨src, S1, e1, e2, rfl⟩ := dcE_inv e
  rw [arm_eval_DictComp]
  refine dc_run (use := none) xb hi ok hg ht hk hv hs I R L e1 e2 fun D Cc s' mm H' φ' I' h' k' R' eD hn f => ⟨mm, hn, fun h'' sb => ?_⟩
  obtain ⟨f0, f1, f2', f3', f4, f5⟩ := f
  exact ⟨.ref D, H', I'.turned (t' := s'.toks) (fun b o hb e => (sb.2 b hb).trans e) f0 f1 f3' f4 f5, rfl, φ', h', k', R', .loc eD⟩
theorem sw_trueD {kx vx : Expr} {gs : List Comprehension} {scope : Scope} {pos py : Pos} {y : Str} {l : Nat} {env : Env} (hk : env.scope.kind = .function) (hy : env.scope.names.lookup y = some .local) (hl : (py.line == pos.line) = true)
    (ha : (scope.names.any fun (n, k) => n == y && (k == .local || k == .cell)) = false) : swapsWith (.DictComp kx vx gs scope pos) (some (.Name y py)) l env = pure true := by
  have ky : env.kindOf y = some .local := hy
  have hb : env.blockKind = .function := by unfold Env.blockKind; rw [hk]; rfl
  unfold swapsWith
  simp only [hb, ky, ha, Expr.pos, hl]
  rfl
/-- name = {..} on one line -/
theorem ss_setDc {i : Nat} {y : Str} {py spos : Pos} {kx vx tg iter : Expr} {ifs : List Expr} {scope : Scope} {own : List (Str × Nat)} {fi : IV} {g : GV} {tt : BV} {fk fv : EV} (n : Nat) (xb : XB C N sc lv X) (hy : ixOf N y = some i) (hyl : X.env.scope.names.lookup y = some .local) (hkind : X.env.scope.kind = .function)
    (hl : (py.line == pos.line) = true) (hany : (scope.names.any fun (n, k) => n == y && (k == .local || k == .cell)) = false) (hi : SI T X tg iter fi) (ok : blkC N sc scope own = true)
    (hg : ∀ Y : Cx, XB C N scope lv Y → SameP X Y → SGw T Y (own.map (·.2)) tg g) (ht : ∀ Y : Cx, XB C N scope lv Y → SameP X Y → STs T Y ifs tt) (hk : ∀ Y : Cx, XB C N scope lv Y → SameP X Y → SE T Y kx fk) (hv : ∀ Y : Cx, XB C N scope lv Y → SameP X Y → SE T Y vx fv)
    (hs : ∀ x, foldedSetIterable iter X.env x = pure x) : SS T X (.Assign [.Name y py] (.DictComp kx vx [⟨tg, iter, ifs, 0⟩] scope pos) spos) (asgV (dcE fi g tt fk fv (own.map (·.2)) n) (setV i)) := by
  refine ⟨fun pins s σ H De I ⟨φ, σD, S, r, σD', S', R, L, e, o⟩ => ?_⟩
  unfold asgV at e
  split at e
  · rename_i d S2 e0
    have e9 : some (Fl.nx, List.set σD i (some d), S2) = some (r, σD', S') := e
    cases e9
    obtain ⟨src, S1, e1, e2, rfl⟩ := dcE_inv e0
    rw [exec_Assign_Name_used _ _ _ _ (sw_trueD (l := spos.line) hkind hyl hl hany)]
    refine wpAny_bind (wpAny_standAt (wpAny_bind ?_))
    show wpAny _ X.A (do let _ ← comprehension (.DictComp kx vx [⟨tg, iter, ifs, 0⟩] scope pos) scope X.env (firstIterPos [⟨tg, iter, ifs, 0⟩] pos) newDict false (eval iter X.env) (some (assign (.Name y py) X.env))) _ _ s
    have hyN : X.N[i]? = some y := by rw [xb.hN]; exact ixOf_get hy
    refine wpAny_bind (thn (dc_run (Qf := fun _ s' => SP X pins De .next s') xb hi ok hg ht hk hv hs I R L e1 e2 fun D Cc s' mm H' φ' I' h' k' R' eD hn f => ?_) fun _ s' hq => wpAny_pure (wpAny_pure hq))
    show wpAny _ _ (assign (.Name y py) X.env (.ref D)) _ _ _
    refine wpAny_assign_Name (store_ok2 (v := V.ref D) I' xb.nd hyN (.inl hyl) rfl (fun s2 I2 ⟨a, sb, ha⟩ => ?_) (.inr hyl))
    obtain ⟨f0, f1, f2, f3, f4, f5⟩ := f
    have haC : Cc ≠ a := by
      rcases ha with z | z
      · rw [z]; exact f1
      · exact fun e => f4 y a z e.symm
    refine ⟨mm, hn.sameBut sb haC, fun h3 sb3 => ?_⟩
    exact ⟨_, H', I2.turned (t' := s2.toks) (fun b o hb e => (sb3.2 b hb).trans e) f0 f1 f3 f4 f5, o φ' _ H' h' k' R' ((L.mono h' k').set i (.loc eD))⟩
  · cases e
/-- name = [..] on one line -/
theorem ss_setLc {i : Nat} {y : Str} {py spos : Pos} {elt tg iter : Expr} {ifs : List Expr} {scope : Scope} {own : List (Str × Nat)} {fi : IV} {g : GV} {tt : BV} {fe : EV} (n : Nat) (xb : XB C N sc lv X) (hy : ixOf N y = some i) (hyl : X.env.scope.names.lookup y = some .local) (hkind : X.env.scope.kind = .function)
    (hl : (py.line == pos.line) = true) (hany : (scope.names.any fun (n, k) => n == y && (k == .local || k == .cell)) = false) (hi : SI T X tg iter fi) (ok : blkC N sc scope own = true)
    (hg : ∀ Y : Cx, XB C N scope lv Y → SameP X Y → SGw T Y (own.map (·.2)) tg g) (ht : ∀ Y : Cx, XB C N scope lv Y → SameP X Y → STs T Y ifs tt) (he : ∀ Y : Cx, XB C N scope lv Y → SameP X Y → SE T Y elt fe)
    (hs : ∀ x, foldedSetIterable iter X.env x = pure x) : SS T X (.Assign [.Name y py] (.ListComp elt [⟨tg, iter, ifs, 0⟩] scope pos) spos) (asgV (lcE fi g tt fe (own.map (·.2)) n) (setV i)) := by
  have hyN : X.N[i]? = some y := by rw [xb.hN]; exact ixOf_get hy
  refine PS.weak (ps_setLc (te := tE (ctOf X T) fe) (tt := tT (ctOf X T) tt) (g := tGw (ctOf X T) (own.map (·.2)) g) (wi := tI (ctOf X T) fi) xb.calm xb.nd hyN hyl (sw_true hkind hyl hl hany) hi (blk_ok xb ok) (fun s H Cc cl fp => hg _ (blk_xb xb s H scope Cc cl fp) same_blk) (fun s H Cc cl fp => ht _ (blk_xb xb s H scope Cc cl fp) same_blk) (fun s H Cc cl fp => he _ (blk_xb xb s H scope Cc cl fp) same_blk) hs) fun De σ H ⟨φ, σD, S, r, σD', S', R, L, e, o⟩ => ?_
  unfold asgV at e
  split at e
  · rename_i d S2 e0
    have e9 : some (Fl.nx, List.set σD i (some d), S2) = some (r, σD', S') := e
    cases e9
    exact tE_lc ⟨φ, σD, S, d, S', R, L, e0, fun v H' ⟨φ', h1, k1, R1, r1⟩ => o φ' _ H' h1 k1 R1 ((L.mono h1 k1).set i r1)⟩
  · cases e
end
end RF

end

/-! ## RU -/
section
set_option maxRecDepth 100000
/-! Methods of lists and dicts, calls, dict displays, by data. -/
namespace RF
open PySem PySem.Spec PyProof.Rows L2

def isStar : Expr → Bool
  | .Starred .. => true
  | _ => false
section
variable {X : Cx} {T : List Addr} {m : Nat} {pos : Pos} {C : Cfg} {N : List Str} {sc : Scope} {lv : Nat}
theorem starEach_cons {e : Expr} {es : List Expr} {env : Env} (h : isStar e = false) : starEach (e :: es) env = (false, eval e env) :: starEach es env := by
  cases e <;> first | rfl | cases h
def noStar (es : List Expr) : Bool := es.all fun e => !isStar e
theorem noStar_cons {e : Expr} {es : List Expr} (h : noStar (e :: es) = true) : isStar e = false ∧ noStar es = true := by
  unfold noStar at *
  simp only [List.all_cons, Bool.and_eq_true, Bool.not_eq_true'] at h
  exact h
theorem back_eq {p : Pos} {env : Env} : ∀ {es : List Expr}, noStar es = true → backTo p (starEach es env) = starEach es env
  | [], _ => rfl
  | e :: es, h => by
    obtain ⟨h1, h2⟩ := noStar_cons h
    rw [starEach_cons h1]
    show (false, eval e env) :: backTo p (starEach es env) = _
    rw [back_eq h2]
theorem noStar_any {env : Env} : ∀ {es : List Expr}, noStar es = true → (starEach es env).any (·.1) = false
  | [], _ => rfl
  | e :: es, h => by
    obtain ⟨h1, h2⟩ := noStar_cons h
    rw [starEach_cons h1, List.any_cons, noStar_any h2]
    rfl
theorem noStar_all {env : Env} : ∀ {es : List Expr}, noStar es = true → (starEach es env).all (fun x => !x.1) = true
  | [], _ => rfl
  | e :: es, h => by
    obtain ⟨h1, h2⟩ := noStar_cons h
    rw [starEach_cons h1, List.all_cons, noStar_all h2]
    rfl
theorem back_any {p : Pos} {env : Env} {es : List Expr} (h : noStar es = true) : (backTo p (starEach es env)).any (·.1) = false := by
  rw [back_eq h]; exact noStar_any h

/-! ### the call of a built-in by its name -/
theorem se_callB {x : Str} {p : Pos} {e : Expr} {es : List Expr} {id : String} {g : GC} {fa : AV} (dc : DoesCall T X (.builtin id) g) (hg : Gl X x) (hm : X.mg x = none) (hv : bootBuiltins x = some (.builtin id)) (ha : SA T X (e :: es) fa) (hok : okName x = true) (hs : noStar (e :: es) = true) :
    SE T X (.Call (.Name x p) (e :: es) [] pos) (callE g fa) :=
  PE.weak (pe_callB dc.callR hg hm hv ha (okName_3 hok) (okName_1 hok) (starEach_cons (noStar_cons hs).1) (back_any (noStar_cons hs).2)) fun σ H Q h => tA_call h
theorem se_callTy {x : Str} {p : Pos} {e : Expr} {es : List Expr} {ty : String} {g : GC} {fa : AV} (dc : DoesCall T X (.type ty) g) (hg : Gl X x) (hm : X.mg x = none) (hv : bootBuiltins x = some (.type ty)) (ha : SA T X (e :: es) fa) (hok : okName x = true) (hs : noStar (e :: es) = true) :
    SE T X (.Call (.Name x p) (e :: es) [] pos) (callE g fa) :=
  PE.weak (pe_callTy dc.callR hg hm hv ha (okName_3 hok) (okName_1 hok) (starEach_cons (noStar_cons hs).1) (back_any (noStar_cons hs).2)) fun σ H Q h => tA_call h

/-! ### the call of a def -/
/-- what a def promises, by data -/
def spF (c : Ct) (g : GC) : Sp := fun vs H Q _ => rC c g vs H Q
theorem se_call {x : Str} {p : Pos} {e : Expr} {es : List Expr} {f : Addr} {fd : FuncData} {ps : List Str} {k : Nat} {g : GC} {fa : AV} (F : FnOk X.prog X.w X.K X.mg X.base C8.CX0 k f fd ps (spF (ctOf X T) g)) (hr : Room k X.A) (hg : Gl X x) (hm : X.mg x = some (.ref f)) (hk : PySem.W.keepIn X.K (.ref f) = true) (hb : Binds X.K fd ps [])
    (ha : SA T X (e :: es) fa) (hok : okName x = true) (hs : noStar (e :: es) = true) : SE T X (.Call (.Name x p) (e :: es) [] pos) (callE g fa) :=
  PE.weak (pe_call (E := C8.E0) F hr hg hm hk hb .nil C8.pass0 ha (okName_1 hok) (starEach_cons (noStar_cons hs).1) (back_any (noStar_cons hs).2)) fun σ H Q h => by
    obtain ⟨φ, σD, S, d, S', R, L, e, q⟩ := h
    unfold callE at e
    split at e
    · rename_i ds S1 e1
      refine ⟨φ, σD, S, ds, S1, R, L, e1, fun vs H' ⟨φ', h1, k1, R1, r1⟩ => ?_⟩
      show spF (ctOf X T) g (vs ++ []) H' Q C8.E0
      rw [List.append_nil]
      exact ⟨φ', S1, ds, d, S', R1, r1, e, fun v H2 p => q v H2 (p.later h1 k1)⟩
    · cases e
theorem se_call0 {x : Str} {p : Pos} {f : Addr} {fd : FuncData} {ps : List Str} {k : Nat} {g : GC} (F : FnOk X.prog X.w X.K X.mg X.base C8.CX0 k f fd ps (spF (ctOf X T) g)) (hr : Room k X.A) (hg : Gl X x) (hm : X.mg x = some (.ref f)) (hk : PySem.W.keepIn X.K (.ref f) = true) (hb : Binds X.K fd ps [])
    (hok : okName x = true) : SE T X (.Call (.Name x p) [] [] pos) (callE g nilA) :=
  PE.weak (pe_call0 (E := C8.E0) F hr hg hm hk hb .nil C8.pass0 (okName_1 hok)) fun σ H Q h => by
    obtain ⟨φ, σD, S, d, S', R, L, e, q⟩ := h
    exact ⟨φ, S, [], d, S', R, .nil, e, q⟩

/-! ### methods -/
inductive MK where
  | lst | dct
def mkD (S : Store) : D → Option MK
  | .loc n => match (S : List O)[n]? with
    | some (.lst _) => some .lst
    | some (.fro _) => some .lst
    | some (.dct _) => some .dct
    | none => none
  | _ => none
abbrev GM := D → GC
def DoesMeth (T : List Addr) (X : Cx) (id : String) (g : GM) : Prop :=
  ∀ (pins : List (Addr × Obj)) (s : Shared) (σ : L2.St) (H : Hp) (φ : List Addr) (S : Store) (x : V) (xs : List V) (v : Value) (us : List Value) (dx : D) (ds : List D) (d : D) (S' : Store), Inv X pins σ H s → Rel (ctOf X T) φ S H → Rep X.K φ H x dx → Reps X.K φ H xs ds → RelV x v → Vals xs us → g dx ds S = some (d, S') →
    wpAny (model X.prog X.w) X.A (call (.builtin id) (v :: us)) (EP X pins σ (QE (ctOf X T) φ H S' d)) X.xe s
/-- the method of that name of that type -/
structure MethOf (T : List Addr) (X : Cx) (ty : String) (name : Str) (g : GM) : Prop where
  ex : ∃ id, PlainAttrs ty ∧ Slot ty name id ∧ typeOf (.builtin id) = pure (.type "method_descriptor") ∧ DoesMeth T X id g
def noGM : GM := fun _ _ _ => none
def methE (gl gd : Option GM) (fo : EV) (fa : AV) : EV := fun σ S => match fo σ S with
  | some (o, S1) => match mkD S1 o with
    | some .lst => match gl with
      | some g => match fa σ S1 with
        | some (ds, S2) => g o ds S2
        | none => none
      | none => none
    | some .dct => match gd with
      | some g => match fa σ S1 with
        | some (ds, S2) => g o ds S2
        | none => none
      | none => none
    | none => none
  | none => none
theorem mkD_lst {pins : List (Addr × Obj)} {σ : L2.St} {H : Hp} {s : Shared} {φ : List Addr} {S : Store} {x : V} {v : Value} {d : D} (I : Inv X pins σ H s) (R : Rel (ctOf X T) φ S H) (r : Rep X.K φ H x d) (rv : RelV x v) (e : mkD S d = some .lst) : s.TypeIs v "list" ∧ ∀ a, v = .ref a → ∃ ob, s.heap.get? a = some ob ∧ ob.dict = none := by
  unfold mkD at e
  split at e
  · rename_i n
    obtain ⟨a, rfl, ea⟩ := r.loc_inv
    have ty : tyV X.K "list" (.ref a) H := by
      split at e
      · rename_i h
        obtain ⟨xs, hx, _⟩ := R.obj _ _ _ ea h
        exact .inl ⟨rfl, xs, SqL.of hx⟩
      · rename_i h
        obtain ⟨xs, hx, _⟩ := (R.obj _ _ _ ea h).fro
        exact .inl ⟨rfl, xs, hx⟩
      · cases e
      · cases e
    exact tyV_is I rv ty
  · cases e
theorem mkD_dct {pins : List (Addr × Obj)} {σ : L2.St} {H : Hp} {s : Shared} {φ : List Addr} {S : Store} {x : V} {v : Value} {d : D} (I : Inv X pins σ H s) (R : Rel (ctOf X T) φ S H) (r : Rep X.K φ H x d) (rv : RelV x v) (e : mkD S d = some .dct) : s.TypeIs v "dict" ∧ ∀ a, v = .ref a → ∃ ob, s.heap.get? a = some ob ∧ ob.dict = none := by
  unfold mkD at e
  split at e
  · rename_i n
    obtain ⟨a, rfl, ea⟩ := r.loc_inv
    split at e
    · cases e
    · cases e
    · rename_i h
      rcases R.obj _ _ _ ea h with ⟨ks, hH, _⟩ | ⟨ks, hH, E⟩
      · exact tyV_is I rv (.inr (.inr (.inl ⟨rfl, .inl ⟨ks, hH⟩⟩)))
      · obtain ⟨_, _, o, es, ep, h4, h5, _⟩ := kd_of I hH E
        obtain rfl : v = Value.ref a := rv
        refine ⟨⟨o, h4, h5.1⟩, fun b q => ?_⟩
        cases q
        exact ⟨o, h4, h5.2.1⟩
    · cases e
  · cases e
def plainBase : Expr → Bool
  | .Call (.Name _ _) [] [] _ => false
  | _ => true
theorem base_of {o : Expr} {name : Str} {env : Env} (h : plainBase o = true) : attributeBase o name env (eval o env) = eval o env := by
  unfold plainBase at h
  split at h
  · cases h
  · rename_i hn
    unfold attributeBase
    cases o <;> try rfl
    rename_i f args kws p
    cases f <;> try rfl
    cases args <;> try rfl
    cases kws <;> try rfl
    exact absurd rfl (hn _ _ _)
theorem few_of {p : Pos} {env : Env} {es : List Expr} (hs : noStar es = true) (hl : es.length < 30) : ((backTo p (starEach es env)).all (fun x => !x.1) && (backToKw p (keywordEach [] env)).all (fun x => x.1.isSome) && decide (es.length + ([] : List Keyword).length + (if ([] : List Keyword).isEmpty then 0 else 1) < 30)) = true := by
  rw [back_eq hs, noStar_all hs]
  have : decide (es.length + ([] : List Keyword).length + (if ([] : List Keyword).isEmpty then 0 else 1) < 30) = true := decide_eq_true (by simpa using hl)
  rw [this]
  rfl
abbrev TyAt (T : List Addr) (X : Cx) (S1 : Store) (x : D) (ty : String) : Prop := ∀ {pins : List (Addr × Obj)} {σ : L2.St} {H : Hp} {s : Shared} {φ : List Addr} {xv : V} {v : Value}, Inv X pins σ H s → Rel (ctOf X T) φ S1 H → Rep X.K φ H xv x → RelV xv v → s.TypeIs v ty ∧ ∀ a, v = .ref a → ∃ ob, s.heap.get? a = some ob ∧ ob.dict = none
theorem meth_run {o e0 : Expr} {name : Str} {apos cpos : Pos} {es : List Expr} {fo : EV} {fa : AV} {g : GM} {ty : String} {pins : List (Addr × Obj)} {s : Shared} {σ : L2.St} {H : Hp} {φ : List Addr} {σD : Slots} {S S1 S2 S' : Store} {x d : D} {ds : List D}
    (mo : MethOf T X ty name g) (hT : TyAt T X S1 x ty) (ho : SE T X o fo) (ha : SA T X (e0 :: es) fa) (hb : plainBase o = true) (hline : (apos.endLine == cpos.line) = true) (hs : noStar (e0 :: es) = true) (hf : (e0 :: es).length < 30)
    (I : Inv X pins σ H s) (R : Rel (ctOf X T) φ S H) (L : SlotRel X.K φ H σD σ) (e1 : fo σD S = some (x, S1)) (e2 : fa σD S1 = some (ds, S2)) (e3 : g x ds S2 = some (d, S')) :
    wpAny (model X.prog X.w) X.A (eval (.Call (.Attribute o name apos) (e0 :: es) [] cpos) X.env) (EP X pins σ (QE (ctOf X T) φ H S' d)) X.xe s := by
  obtain ⟨id, pa, slot, hty, dm⟩ := mo.ex
  refine wpAny_Call_method_late (base_of hb) (few_of hs hf) hline rfl (thn (se_run ho I R L e1) fun v s1 ⟨xv, H1, I1, rx, φ1, h1, k1, R1, r1⟩ => ?_)
  obtain ⟨t1, t2⟩ := hT I1 R1 r1 rx
  refine ⟨ty, id, pa, slot, hty, t1, t2, ?_⟩
  have hA := ha.run cpos pins s1 σ H1 (fun vs H' => QA (ctOf X T) φ1 H1 S2 ds vs H') I1 ⟨φ1, σD, S1, ds, S2, R1, L.mono h1 k1, e2, fun vs H' q => q⟩
  have hbk := back_any (p := cpos) (env := X.env) (noStar_cons hs).2
  rw [starEach_cons (noStar_cons hs).1] at hA ⊢
  refine Calls.callWith_builtin (by show (false || (backTo cpos (starEach es X.env)).any (·.1)) = false; rw [hbk] <;> rfl) (Calls.evalArgs_plain ?_)
  refine thn hA fun us s2 ⟨vs, H2, I2, r2, φ2, h2, k2, R2, rs⟩ => ?_
  exact thn (dm pins s2 σ H2 φ2 S2 xv vs v us x ds d S' I2 R2 (r1.mono h2 k2) rs rx r2 e3) fun w s3 ⟨z, H3, I3, rz, p⟩ => ⟨z, H3, I3, rz, p.later (h1.trans h2) (k1.trans k2)⟩
theorem meth_run0 {o : Expr} {name : Str} {apos cpos : Pos} {fo : EV} {g : GM} {ty : String} {pins : List (Addr × Obj)} {s : Shared} {σ : L2.St} {H : Hp} {φ : List Addr} {σD : Slots} {S S1 S' : Store} {x d : D}
    (mo : MethOf T X ty name g) (hT : TyAt T X S1 x ty) (ho : SE T X o fo) (hb : plainBase o = true) (hline : (apos.endLine == cpos.line) = true)
    (I : Inv X pins σ H s) (R : Rel (ctOf X T) φ S H) (L : SlotRel X.K φ H σD σ) (e1 : fo σD S = some (x, S1)) (e3 : g x [] S1 = some (d, S')) :
    wpAny (model X.prog X.w) X.A (eval (.Call (.Attribute o name apos) [] [] cpos) X.env) (EP X pins σ (QE (ctOf X T) φ H S' d)) X.xe s := by
  obtain ⟨id, pa, slot, hty, dm⟩ := mo.ex
  refine wpAny_Call_method0_late (base_of hb) hline (thn (se_run ho I R L e1) fun v s1 ⟨xv, H1, I1, rx, φ1, h1, k1, R1, r1⟩ => ?_)
  obtain ⟨t1, t2⟩ := hT I1 R1 r1 rx
  refine ⟨ty, id, pa, slot, hty, t1, t2, Calls.callWith_builtin rfl (PySem.evalArgs_none ?_)⟩
  exact thn (dm pins s1 σ H1 φ1 S1 xv [] v [] x [] d S' I1 R1 r1 .nil rx .nil e3) fun w s3 ⟨z, H3, I3, rz, p⟩ => ⟨z, H3, I3, rz, p.later h1 k1⟩
theorem methE_inv {name : Str} {gl gd : Option GM} {fo : EV} {fa : AV} {σD : Slots} {S S' : Store} {d : D} (hl : ∀ g, gl = some g → MethOf T X "list" name g) (hd : ∀ g, gd = some g → MethOf T X "dict" name g) (e : methE gl gd fo fa σD S = some (d, S')) :
    ∃ x S1 ds S2 g ty, fo σD S = some (x, S1) ∧ fa σD S1 = some (ds, S2) ∧ g x ds S2 = some (d, S') ∧ MethOf T X ty name g ∧ TyAt T X S1 x ty := by
  unfold methE at e
  split at e
  · rename_i x S1 e1
    split at e
    · rename_i hk
      split at e
      · rename_i g
        split at e
        · rename_i ds S2 e2
          exact ⟨x, S1, ds, S2, g, "list", e1, e2, e, hl g rfl, fun I R r rv => mkD_lst I R r rv hk⟩
        · cases e
      · cases e
    · rename_i hk
      split at e
      · rename_i g
        split at e
        · rename_i ds S2 e2
          exact ⟨x, S1, ds, S2, g, "dict", e1, e2, e, hd g rfl, fun I R r rv => mkD_dct I R r rv hk⟩
        · cases e
      · cases e
    · cases e
  · cases e
theorem se_meth {o e0 : Expr} {name : Str} {apos cpos : Pos} {es : List Expr} {fo : EV} {fa : AV} {gl gd : Option GM} (hl : ∀ g, gl = some g → MethOf T X "list" name g) (hd : ∀ g, gd = some g → MethOf T X "dict" name g) (ho : SE T X o fo) (ha : SA T X (e0 :: es) fa)
    (hb : plainBase o = true) (hline : (apos.endLine == cpos.line) = true) (hs : noStar (e0 :: es) = true) (hf : (e0 :: es).length < 30) : SE T X (.Call (.Attribute o name apos) (e0 :: es) [] cpos) (methE gl gd fo fa) :=
  PE.at fun pins s σ H φ σD S d S' I R L e => by
    obtain ⟨x, S1, ds, S2, g, ty, e1, e2, e3, mo, hT⟩ := methE_inv hl hd e
    exact meth_run mo hT ho ha hb hline hs hf I R L e1 e2 e3
theorem se_meth0 {o : Expr} {name : Str} {apos cpos : Pos} {fo : EV} {gl gd : Option GM} (hl : ∀ g, gl = some g → MethOf T X "list" name g) (hd : ∀ g, gd = some g → MethOf T X "dict" name g) (ho : SE T X o fo)
    (hb : plainBase o = true) (hline : (apos.endLine == cpos.line) = true) : SE T X (.Call (.Attribute o name apos) [] [] cpos) (methE gl gd fo nilA) :=
  PE.at fun pins s σ H φ σD S d S' I R L e => by
    obtain ⟨x, S1, ds, S2, g, ty, e1, e2, e3, mo, hT⟩ := methE_inv hl hd e
    cases e2
    exact meth_run0 mo hT ho hb hline I R L e1 e3

/-! the methods themselves -/
def appendG : GM := fun o ds S => match o, ds with
  | .loc n, [d] => match (S : List O)[n]? with
    | some (.lst xs) => if xs.length < most then some (.non, List.set S n (.lst (xs ++ [d]))) else none
    | _ => none
  | _, _ => none
theorem meth_append : MethOf T X "list" "append" appendG := ⟨"list.append", PySem.F.plainAttrs_list, PySem.F.slot_list_append, PySem.F.type_list_append, fun pins s σ H φ S x xs v us dx ds d S' I R rx rs rv rvs e => by
  unfold appendG at e
  split at e
  · rename_i n d0
    split at e
    · rename_i ys hy
      split at e
      · rename_i hl
        cases e
        obtain ⟨a, rfl, ea⟩ := rx.loc_inv
        obtain ⟨y, rfl, ry⟩ := reps1 rs
        obtain ⟨zs, hz, rz⟩ := R.obj _ _ _ ea hy
        have kw : Keep H (upd H a (.lst (zs ++ [y]))) := (R.obj _ _ _ ea hy).keep
        refine mt_append pins s σ H _ _ v us _ I rv rvs ⟨a, zs, y, rfl, rfl, hz, by rw [rz.length]; exact Nat.lt_of_lt_of_le hl (most_line (Nat.le_refl _)), ?_⟩
        exact ⟨φ, List.prefix_refl _, kw, R.write (o' := .lst (ys ++ [d0])) ea hy rfl ⟨_, upd_same, (rz.append (.cons ry .nil)).mono (List.prefix_refl _) kw⟩, .non⟩
      · cases e
    · cases e
  · cases e⟩
theorem reps_dropLast {K : PySem.W.Frag} {φ : List Addr} {H : Hp} {xs : List V} {ds : List D} (r : Reps K φ H xs ds) : Reps K φ H xs.dropLast ds.dropLast := by
  rw [List.dropLast_eq_take, List.dropLast_eq_take, r.length]
  exact r.take _
def popG : GM := fun o ds S => match o, ds with
  | .loc n, [] => match (S : List O)[n]? with
    | some (.lst xs) => match xs[xs.length - 1]? with
      | some d => some (d, List.set S n (.lst xs.dropLast))
      | none => none
    | _ => none
  | .loc n, [.int i] => match (S : List O)[n]? with
    | some (.lst xs) => if rg62 i = true then match seqIndex? i xs.length with
      | some k => match xs[k]? with
        | some d => some (d, List.set S n (.lst (xs.eraseIdx k)))
        | none => none
      | none => none
      else none
    | _ => none
  | _, _ => none
theorem meth_pop : MethOf T X "list" "pop" popG := ⟨"list.pop", PySem.F.plainAttrs_list, PySem.F.slot_list_pop, PySem.F.type_list_pop, fun pins s σ H φ S x xs v us dx ds d S' I R rx rs rv rvs e => by
  unfold popG at e
  split at e
  · rename_i n
    split at e
    · rename_i ys hy
      split at e
      · rename_i d0 hd
        cases e
        obtain ⟨a, rfl, ea⟩ := rx.loc_inv
        cases rs
        obtain ⟨zs, hz, rz⟩ := R.obj _ _ _ ea hy
        obtain ⟨z, hzz, rd⟩ := rz.get' hd
        have kw : Keep H (upd H a (.lst zs.dropLast)) := (R.obj _ _ _ ea hy).keep
        refine mt_pop pins s σ H _ _ v us _ I rv rvs ⟨a, zs, z, rfl, rfl, hz, by rw [rz.length]; exact hzz, ?_⟩
        exact ⟨φ, List.prefix_refl _, kw, R.write (o' := .lst ys.dropLast) ea hy rfl ⟨_, upd_same, (reps_dropLast rz).mono (List.prefix_refl _) kw⟩, rd.mono (List.prefix_refl _) kw⟩
      · cases e
    · cases e
  · rename_i n i
    split at e
    · rename_i ys hy
      split at e
      · rename_i hi
        split at e
        · rename_i k hk
          split at e
          · rename_i d0 hd
            cases e
            obtain ⟨a, rfl, ea⟩ := rx.loc_inv
            obtain ⟨y, rfl, ry⟩ := reps1 rs
            obtain ⟨zs, hz, rz⟩ := R.obj _ _ _ ea hy
            obtain ⟨z, hzz, rd⟩ := rz.get' hd
            have kw : Keep H (upd H a (.lst (zs.eraseIdx k))) := (R.obj _ _ _ ea hy).keep
            obtain ⟨g1, g2⟩ := rg62_iff.mp hi
            refine mt_popAt pins s σ H _ _ v us _ I rv rvs ⟨a, zs, i, k, z, rfl, by rw [ry.int_inv], hz, by omega, by omega, by rw [rz.length]; exact hk, hzz, ?_⟩
            exact ⟨φ, List.prefix_refl _, kw, R.write (o' := .lst (ys.eraseIdx k)) ea hy rfl ⟨_, upd_same, (rz.eraseIdx k).mono (List.prefix_refl _) kw⟩, rd.mono (List.prefix_refl _) kw⟩
          · cases e
        · cases e
      · cases e
    · cases e
  · cases e⟩
def findD (p : PyData) : List PyData → Nat → Option Nat
  | [], _ => none
  | q :: r, i => if PyData.eqv q p = true then some i else findD p r (i + 1)
theorem findD_some {p : PyData} : ∀ {l : List PyData} {i j : Nat}, findD p l i = some j → ∃ k z, j = i + k ∧ l[k]? = some z ∧ PyData.eqv z p = true ∧ ∀ m z', m < k → l[m]? = some z' → PyData.eqv z' p = false
  | [], i, j, h => by cases h
  | q :: r, i, j, h => by
    unfold findD at h
    split at h
    · rename_i hq
      cases h
      exact ⟨0, q, rfl, rfl, hq, fun m z' hm => by omega⟩
    · rename_i hq
      obtain ⟨k, z, e1, e2, e3, e4⟩ := findD_some h
      refine ⟨k + 1, z, by omega, by simpa using e2, e3, fun m z' hm hz => ?_⟩
      cases m with
      | zero => simp at hz; subst hz; simpa using hq
      | succ m => exact e4 m z' (by omega) (by simpa using hz)
def indexG : GM := fun o ds S => match o, ds with
  | .loc n, [d] => match (S : List O)[n]? with
    | some (.lst xs) => match py S d, toPys S 39 xs with
      | some p, some ps => match findD p ps 0 with
        | some j => some (.int (j : Nat), S)
        | none => none
      | _, _ => none
    | _ => none
  | _, _ => none
theorem meth_index (hr : Room m X.A) : MethOf T X "list" "index" indexG := ⟨"list.index", PySem.F.plainAttrs_list, PySem.F.slot_list_index, PySem.F.type_list_index, fun pins s σ H φ S x xs v us dx ds d S' I R rx rs rv rvs e => by
  unfold indexG at e
  split at e
  · rename_i n d0
    split at e
    · rename_i ys hy
      split at e
      · rename_i p ps hp hps
        split at e
        · rename_i j hj
          cases e
          obtain ⟨a, rfl, ea⟩ := rx.loc_inv
          obtain ⟨y, rfl, ry⟩ := reps1 rs
          obtain ⟨zs, hz, rz⟩ := R.obj _ _ _ ea hy
          obtain ⟨k, z, e1, e2, e3, e4⟩ := findD_some hj
          have ejk : j = k := by omega
          subst ejk
          exact mt_indexD (room65 hr) pins s σ H _ _ v us _ I rv rvs ⟨a, y, p, ps, j, z, rfl, rfl, .lst (SqL.of hz) (toPys_dp R _ _ _ _ rz hps), toPy_dp R _ _ _ _ ry hp, shaped_list (pys_shaped hps), py_shaped hp, e2, e3, e4, .here R (.int _)⟩
        · cases e
      · cases e
    · cases e
  · cases e⟩
def dpopG : GM := fun o ds S => match o, ds with
  | .loc n, [k] => match (S : List O)[n]? with
    | some (.dct kvs) => if kindOk kvs k = true then match lookD kvs k with
      | some d => some (d, List.set S n (.dct (dropD kvs k)))
      | none => none
      else none
    | _ => none
  | _, _ => none
theorem meth_dpop (hr : Room m X.A) : MethOf T X "dict" "pop" dpopG := ⟨"dict.pop", PySem.F.plainAttrs_dict, PySem.F.slot_dict_pop, PySem.F.type_dict_pop, fun pins s σ H φ S x xs v us dx ds d S' I R rx rs rv rvs e => by
  unfold dpopG at e
  split at e
  · rename_i n k
    split at e
    · rename_i kvs hk
      split at e
      · rename_i h1
        split at e
        · rename_i d0 h2
          cases e
          obtain ⟨a, rfl, ea⟩ := rx.loc_inv
          obtain ⟨y, rfl, ry⟩ := reps1 rs
          obtain ⟨u, rfl, ru⟩ := vals1 rvs
          obtain rfl : v = Value.ref a := rv
          exact dict_pop hr I R ea hk ry ru h1 h2
        · cases e
      · cases e
    · cases e
  · cases e⟩
end
end RF

end

/-! ## RV -/
section
set_option maxRecDepth 100000
/-! Dict displays by data. -/
namespace RF
open PySem PySem.Spec PyProof.Rows L2

inductive PRs (K : PySem.W.Frag) (φ : List Addr) (H : Hp) : List (V × V) → List (D × D) → Prop
  | nil : PRs K φ H [] []
  | cons {x y : V} {a b : D} {ps : List (V × V)} {kvs : List (D × D)} : Rep K φ H x a → Rep K φ H y b → PRs K φ H ps kvs → PRs K φ H ((x, y) :: ps) ((a, b) :: kvs)
theorem PRs.mono {K : PySem.W.Frag} {φ φ' : List Addr} {H H' : Hp} (h1 : φ <+: φ') (h2 : Keep H H') : ∀ {ps : List (V × V)} {kvs : List (D × D)}, PRs K φ H ps kvs → PRs K φ' H' ps kvs
  | _, _, .nil => .nil
  | _, _, .cons a b t => .cons (a.mono h1 h2) (b.mono h1 h2) (PRs.mono h1 h2 t)
def pairsE : List (EV × EV) → Slots → Store → Option (List (D × D) × Store)
  | [], _, S => some ([], S)
  | (fk, fv) :: r, σ, S => match fk σ S with
    | some (a, S1) => match fv σ S1 with
      | some (b, S2) => match pairsE r σ S2 with
        | some (kvs, S3) => some ((a, b) :: kvs, S3)
        | none => none
      | none => none
    | none => none
section
variable {X : Cx} {T : List Addr} {m : Nat} {pos : Pos}
theorem tPairs_of {c : Ct} : ∀ (prs : List (EV × EV)) (φ : List Addr) (σD : Slots) (S : Store) (kvs : List (D × D)) (S' : Store) (σ : L2.St) (H : Hp) (Q : List (V × V) → Hp → Prop), Rel c φ S H → SlotRel c.K φ H σD σ → pairsE prs σD S = some (kvs, S') →
    (∀ ps H' φ', φ <+: φ' → Keep H H' → Rel c φ' S' H' → PRs c.K φ' H' ps kvs → Q ps H') → tPairs (prs.map fun p => (tE c p.1, tE c p.2)) σ H Q
  | [], φ, σD, S, kvs, S', σ, H, Q, R, L, e, q => by
    cases e
    exact q [] H φ (List.prefix_refl _) (Keep.refl _) R .nil
  | (fk, fv) :: r, φ, σD, S, kvs, S', σ, H, Q, R, L, e, q => by
    simp only [pairsE] at e
    split at e
    · rename_i a S1 e1
      split at e
      · rename_i b S2 e2
        split at e
        · rename_i kvs' S3 e3
          cases e
          refine ⟨φ, σD, S, a, S1, R, L, e1, fun x H1 ⟨φ1, h1, k1, R1, r1⟩ => ?_⟩
          refine ⟨φ1, σD, S1, b, S2, R1, L.mono h1 k1, e2, fun y H2 ⟨φ2, h2, k2, R2, r2⟩ => ?_⟩
          refine tPairs_of r φ2 σD S2 kvs' S' σ H2 _ R2 ((L.mono h1 k1).mono h2 k2) e3 fun ps H3 φ3 h3 k3 R3 r3 => ?_
          exact q _ H3 φ3 ((h1.trans h2).trans h3) ((k1.trans k2).trans k3) R3 (.cons ((r1.mono h2 k2).mono h3 k3) (r2.mono h3 k3) r3)
        · cases e
      · cases e
    · cases e
theorem prs_keys {K : PySem.W.Frag} {φ : List Addr} {H : Hp} : ∀ {ps : List (V × V)} {kvs : List (D × D)}, PRs K φ H ps kvs → (kvs.all fun e => (dKey e.1).isSome) = true → ∃ kv : List (Key × V), ps = kv.map (fun p => (kV p.1, p.2)) ∧ kv.length = kvs.length ∧ ∀ (acc : List (Key × V)) (ac : List (D × D)), Ents dKey K φ H acc ac → Ents dKey K φ H (mergeK acc kv) (putAll ac kvs)
  | _, _, .nil, _ => ⟨[], rfl, rfl, fun acc ac E => E⟩
  | _, _, .cons (y := yy) (a := a) (b := b) ra rb t, h => by
    simp only [List.all_cons, Bool.and_eq_true] at h
    obtain ⟨kv, e1, e2, e3⟩ := prs_keys t h.2
    obtain ⟨k, hk⟩ := Option.isSome_iff_exists.mp h.1
    obtain rfl := dKey_kV ra hk
    refine ⟨(k, yy) :: kv, by simp [e1], by simp [e2], fun acc ac E => ?_⟩
    have := e3 _ _ (E.put hk rb)
    show Ents dKey K φ H (mergeK (putK acc k yy) kv) (putAll (putD ac a b) _)
    have hp : putD ac a b = putBy dKey k a b ac := by unfold putD; rw [hk]
    rw [hp]
    exact this
def dispE (prs : List (EV × EV)) : EV := fun σ S => match pairsE prs σ (S ++ [.dct []]) with
  | some (kvs, S1) => if (kvs.all fun e => (dKey e.1).isSome) = true then match (S1 : List O)[List.length S]? with
    | some (.dct []) => some (.loc (List.length S), List.set S1 (List.length S) (.dct (putAll [] kvs)))
    | _ => none
    else none
  | none => none
/-- the displays' pairs, each with what it does -/
inductive DPairs (T : List Addr) (X : Cx) : List (Option Expr) → List Expr → List (EV × EV) → Prop
  | nil : DPairs T X [] [] []
  | cons {k v : Expr} {ks : List (Option Expr)} {vs : List Expr} {fk fv : EV} {prs : List (EV × EV)} : SE T X k fk → SE T X v fv → DPairs T X ks vs prs → DPairs T X (some k :: ks) (v :: vs) ((fk, fv) :: prs)
theorem DPairs.pps : ∀ {ks : List (Option Expr)} {vs : List Expr} {prs : List (EV × EV)}, DPairs T X ks vs prs → PPs X pos ks vs (prs.map fun p => (tE (ctOf X T) p.1, tE (ctOf X T) p.2))
  | _, _, _, .nil => pps_nil
  | _, _, _, .cons hk hv t => pps_cons hk hv t.pps
theorem DPairs.facts : ∀ {ks : List (Option Expr)} {vs : List Expr} {prs : List (EV × EV)}, DPairs T X ks vs prs → ks.all (·.isSome) = true ∧ ks.length = vs.length ∧ ks.length = prs.length
  | _, _, _, .nil => ⟨rfl, rfl, rfl⟩
  | _, _, _, .cons hk hv t => by
    obtain ⟨h1, h2, h3⟩ := t.facts
    exact ⟨by simp [h1], by simp [h2], by simp [h3]⟩
theorem pairsE_len : ∀ {prs : List (EV × EV)} {σ : Slots} {S S' : Store} {kvs : List (D × D)}, pairsE prs σ S = some (kvs, S') → kvs.length = prs.length
  | [], _, _, _, _, e => by cases e; rfl
  | (fk, fv) :: r, σ, S, S', kvs, e => by
    simp only [pairsE] at e
    split at e
    · split at e
      · split at e
        · rename_i h
          cases e
          simp [pairsE_len h]
        · cases e
      · cases e
    · cases e
theorem se_disp {ks : List (Option Expr)} {vs : List Expr} {prs : List (EV × EV)} (h : DPairs T X ks vs prs) (h0 : ks ≠ []) (h15 : ks.length ≤ 15) : SE T X (.Dict ks vs pos) (dispE prs) := by
  refine PE.at fun pins s σ H φ σD S d S' I R L e => ?_
  obtain ⟨f1, f2, f3⟩ := h.facts
  unfold dispE at e
  split at e
  · rename_i kvs S1 e1
    split at e
    · rename_i hall
      split at e
      · rename_i hS1
        cases e
        have hn := I.hok.fresh (Nat.le_refl s.heap.objs.size)
        have I1 := I.laid (a := s.heap.objs.size) (o := .dK []) (h' := s.heap.push { cls := .type "dict", data := .dict #[] }) (t' := s.toks) (fun _ _ q => Heap.get?_push_of_some _ q) (Nat.le_refl _) (dk_empty s.heap I.big)
        have RD : Rel (ctOf X T) (φ ++ [s.heap.objs.size]) (S ++ [.dct []]) (upd H s.heap.objs.size (.dK [])) := R.new hn (.inl ⟨[], upd_same, .nil⟩)
        have kD : Keep H (upd H s.heap.objs.size (.dK [])) := Keep.new hn
        have eD : (φ ++ [s.heap.objs.size])[List.length S]? = some s.heap.objs.size := by rw [← R.len]; simp
        have LD := (L.mono (List.prefix_append φ [s.heap.objs.size]) kD)
        refine wpAny_Dict_walk (knd := mixKind X.prog X.w) f1 f2 h0 h15 (thn ((h.pps (pos := pos)).run pins _ σ _ (fun ps H' => ∃ φ', (φ ++ [s.heap.objs.size]) <+: φ' ∧ Keep (upd H s.heap.objs.size (.dK [])) H' ∧ Rel (ctOf X T) φ' S1 H' ∧ PRs X.K φ' H' ps kvs) I1
          (tPairs_of prs _ σD _ kvs S1 σ _ _ RD LD e1 fun ps H' φ' a b c d => ⟨φ', a, b, c, d⟩)) fun ws s2 ⟨ps, H2, I2, rel, φ2, h2, k2, R2, rp⟩ => ?_)
        have ea2 := pre_get h2 eD
        -- the dict stands as it was laid
        have main : ∀ H3 : Hp, Inv X pins σ H3 s2 → Rel (ctOf X T) φ2 S1 H3 → Keep H2 H3 → H3 s.heap.objs.size = some (.dK []) → ∃ rs, Carries (mixKind X.prog X.w) ws rs ∧ s2.heap.DictOf (mixKind X.prog X.w) s.heap.objs.size [] ∧
            ∀ h', h'.DictOf (mixKind X.prog X.w) s.heap.objs.size (merged [] rs) → Heap.SameBut s.heap.objs.size s2.heap h' → EP X pins σ (QE (ctOf X T) φ H (List.set S1 (List.length S) (.dct (putAll [] kvs))) (.loc (List.length S))) (.ref s.heap.objs.size) { s2 with heap := h', toks := s2.toks + ws.length } := fun H3 I3 R3 k3 hH3 => by
          obtain ⟨kv, ep, el, eE⟩ := prs_keys (rp.mono (List.prefix_refl _) k3) hall
          subst ep
          obtain ⟨rs, c, rk⟩ := carries_of (P := X.prog) (w := X.w) rel
          obtain ⟨z, hd, vs0, r0, dd⟩ := dk_of I3.hok hH3
          cases r0
          refine ⟨rs, c, dd, fun h' dd' hs => ?_⟩
          have hz : (mergeK [] kv).length ≤ sizeLine := by
            have h1 := length_mergeK kv []
            rw [List.length_nil] at h1
            have h2 := pairsE_len e1
            rw [sizeLine_eq]; omega
          have he : ∃ q, h'.get? s.heap.objs.size = some q := let ⟨q, _, _, hq, _⟩ := dd'; ⟨q, hq⟩
          have kw : Keep H3 (upd H3 s.heap.objs.size (.dK (mergeK [] kv))) := Keep.store hH3 (by intro xs z; cases z)
          refine ⟨.ref s.heap.objs.size, _, d_write I3 (by rw [hH3]; exact True.intro) hs he (dk_new hz hd (rk.merge .nil) dd'), rfl, φ2, (List.prefix_append _ _).trans h2, ((kD.trans k2).trans k3).trans kw, R3.write ea2 hS1 rfl (.inl ⟨_, upd_same, ?_⟩), .loc ea2⟩
          exact (eE [] [] .nil).mono (List.prefix_refl _) kw
        rcases R2.obj _ _ _ ea2 hS1 with ⟨ks', hH, E⟩ | ⟨xs, hH, E⟩
        · cases E
          exact main H2 I2 R2 (Keep.refl _) hH
        · cases E
          have hw := R2.write (u := .dK []) (o' := .dct []) ea2 hS1 rfl (.inl ⟨[], upd_same, .nil⟩)
          have e2 : List.set S1 (List.length S) (.dct []) = S1 := by
            apply List.ext_getElem?
            intro j
            by_cases hj : j = List.length S
            · subst hj; rw [List.getElem?_set_self (List.getElem?_eq_some_iff.mp hS1).1, hS1]
            · rw [List.getElem?_set_ne (Ne.symm hj)]
          rw [e2] at hw
          exact main _ (conv_k I2 hH) hw (R2.obj _ _ _ ea2 hS1).keep upd_same
      · cases e
    · cases e
  · cases e
/-- {} -/
def dict0E : EV := fun _ S => some (.loc (List.length S), S ++ [.dct []])
theorem se_dict0 : SE T X (.Dict [] [] pos) dict0E := PE.weak pe_dnewK fun σ H Q ⟨φ, σD, S, d, S', R, L, e, q⟩ => by
  cases e
  intro p hp
  refine q _ _ ⟨φ ++ [p], List.prefix_append _ _, Keep.new hp, R.new hp (.inl ⟨[], upd_same, .nil⟩), .loc ?_⟩
  rw [← R.len]
  simp
end
end RF

end

/-! ## SD -/
section
set_option maxRecDepth 100000
/-! A generator expression's run, by data. -/
namespace RF
open PySem PySem.Spec PyProof.Rows L2 GenW

/-! ### pure -/
/-- one pull: an item and where it stands then; none: the end -/
def pullV (src : Src) (g : GV) (tt : BV) (fe : EV) : Nat → Nat → Slots → Store → Option (Option (D × Nat × Slots) × Store)
  | 0, _, _, _ => none
  | n + 1, i, σ, S => match nextS S src i with
    | none => none
    | some none => some (none, S)
    | some (some d) => match g d σ S with
      | none => none
      | some (σ1, S1) => match tt σ1 S1 with
        | none => none
        | some (false, S2) => pullV src g tt fe n (i + 1) σ1 S2
        | some (true, S2) => match fe σ1 S2 with
          | none => none
          | some (y, S3) => some (some (y, i + 1, σ1), S3)
/-- the fixed parts of a generator's run -/
structure Gn where
  src : Src
  g : GV
  tt : BV
  fe : EV
  lf : Nat
def Gn.pull (G : Gn) (i : Nat) (σ : Slots) (S : Store) : Option (Option (D × Nat × Slots) × Store) := pullV G.src G.g G.tt G.fe G.lf i σ S
/-- where it stands ahead of the j-th pull; what is out -/
def Gn.tr (G : Gn) (σ0 : Slots) (S0 : Store) : Nat → Option (List D × Nat × Slots × Store)
  | 0 => some ([], 0, σ0, S0)
  | j + 1 => match G.tr σ0 S0 j with
    | some (ys, i, σ, S) => match G.pull i σ S with
      | some (some (y, i', σ'), S') => some (ys ++ [y], i', σ', S')
      | _ => none
    | none => none

/-! ### between the pulls -/
/-- what the consumer keeps beside it: what is out, the places, the heap, its pins -/
abbrev ZC := List D → List Addr → Hp → List (Addr × Obj) → Prop
def ZMono (Z : ZC) : Prop := ∀ ys φ H cp φ' H', φ <+: φ' → Keep H H' → Z ys φ H cp → Z ys φ' H' cp
section
variable (X : Cx) (T : List Addr) (Z : ZC) (fp : List Addr) (tn : Nat → Heap → Prop) (φ0 : List Addr) (H0 : Hp)
def GIn (ys : List D) (i : Nat) (σD : Slots) (S : Store) (s : Shared) : Prop :=
  ∃ φ H σ cp, φ0 <+: φ ∧ Keep H0 H ∧ Rel (ctOf X T) φ S H ∧ SlotRel X.K φ H σD σ ∧ Z ys φ H cp ∧ Inv X cp σ H s ∧ tn i s.heap ∧ ∀ b ∈ fp, FpOk X cp H b
def GYd (ys : List D) (y : D) (i : Nat) (σD : Slots) (S : Store) (v : Value) (s : Shared) : Prop :=
  ∃ φ H σ cp x, φ0 <+: φ ∧ Keep H0 H ∧ Rel (ctOf X T) φ S H ∧ SlotRel X.K φ H σD σ ∧ Z ys φ H cp ∧ Inv X cp σ H s ∧ tn i s.heap ∧ (∀ b ∈ fp, FpOk X cp H b) ∧ RelV x v ∧ Rep X.K φ H x y
def GEd (ys : List D) (S : Store) (s : Shared) : Prop :=
  ∃ φ H σ cp, φ0 <+: φ ∧ Keep H0 H ∧ Rel (ctOf X T) φ S H ∧ Z ys φ H cp ∧ Inv X cp σ H s
variable (G : Gn) (σ0 : Slots) (S0 : Store) (n : Nat)
def YG : Protocol := fun k s₀ v s kap => ∃ j ys i σD S y i' σD' S', j + k + 1 = n ∧ G.tr σ0 S0 j = some (ys, i, σD, S) ∧ G.pull i σD S = some (some (y, i', σD'), S') ∧ GYd X T Z fp tn φ0 H0 ys y i' σD' S' v s ∧
  ∀ s'', GIn X T Z fp tn φ0 H0 (ys ++ [y]) i' σD' S' s'' → 0 < k → G.pull i' σD' S' ≠ none → kap (.send .none) s''
def FG (k : Nat) (s : Shared) : Prop := ∃ j ys i σD S S', j + k = n ∧ G.tr σ0 S0 j = some (ys, i, σD, S) ∧ G.pull i σD S = some (none, S') ∧ GEd X T Z φ0 H0 ys S' s
def RG : GenEnd := fun k s₀ r s => ((r = .ok (.ret .none) ∨ r = .ok .next) ∧ FG X T Z φ0 H0 G σ0 S0 n k s) ∨ ∃ e, r = .error e ∧ False
end
section
variable {X : Cx} {T : List Addr} {Z : ZC} {fp : List Addr} {it : Addr} {tn : Nat → Heap → Prop} {φ0 : List Addr} {H0 : Hp} {G : Gn} {σ0 : Slots} {S0 : Store} {n : Nat} {J : It} {A : Around}
  {elt tg iter : Expr} {ifs : List Expr} {scope : Scope} {pos : Pos}
theorem seg_gen (hZ : ZMono Z) (hxe : X.xe = fun _ _ => False) (hca : X.calm = true) (hov : A.over (.compLoop (.GeneratorExp elt [⟨tg, iter, ifs, 0⟩] scope pos) 0 (.ref it) .none X.env) [] = X.A) (hco : X.env.scope.isCoroutine = false)
    (TT : Turn X.prog X.w X.K tg J fp it tn) (M : MatchIt (ctOf X T) J G.src φ0 H0) (hg : SG T X tg G.g) (ht : STs T X ifs G.tt) (he : SE T X elt G.fe) :
    ∀ (k j : Nat) (ys : List D) (i : Nat) (σD : Slots) (S : Store) (s₀ s : Shared), j + k = n → 0 < k → G.tr σ0 S0 j = some (ys, i, σD, S) → G.pull i σD S ≠ none → GIn X T Z fp tn φ0 H0 ys i σD S s →
      Seg (model X.prog X.w) A (RG X T Z φ0 H0 G σ0 S0 n) (YG X T Z fp tn φ0 H0 G σ0 S0 n) k s₀ (.compLoop (.GeneratorExp elt [⟨tg, iter, ifs, 0⟩] scope pos) 0 (.ref it) .none X.env)
        ((model X.prog X.w).den (.compLoop (.GeneratorExp elt [⟨tg, iter, ifs, 0⟩] scope pos) 0 (.ref it) .none X.env)) [] s := by
  intro k
  induction k with
  | zero => intro j ys i σD S s₀ s _ h0; omega
  | succ k ih =>
    intro j ys i σD S s₀ s hjk _ htr hpn hG
    obtain ⟨res, hres⟩ := Option.ne_none_iff_exists'.mp hpn
    have inner : ∀ (m i1 : Nat) (σ1 : Slots) (S1 : Store) (s : Shared), pullV G.src G.g G.tt G.fe m i1 σ1 S1 = some res → GIn X T Z fp tn φ0 H0 ys i1 σ1 S1 s →
        Seg (model X.prog X.w) A (RG X T Z φ0 H0 G σ0 S0 n) (YG X T Z fp tn φ0 H0 G σ0 S0 n) (k + 1) s₀ (.compLoop (.GeneratorExp elt [⟨tg, iter, ifs, 0⟩] scope pos) 0 (.ref it) .none X.env)
          ((model X.prog X.w).den (.compLoop (.GeneratorExp elt [⟨tg, iter, ifs, 0⟩] scope pos) 0 (.ref it) .none X.env)) [] s := by
      intro m
      induction m with
      | zero => intro i1 σ1 S1 s h; cases h
      | succ m ihm =>
        intro i1 σ1 S1 s hp ⟨φ, H, σ, cp, h1, k1, R, L, z, I, hst, hfp⟩
        show Seg _ A _ _ _ s₀ _ ((compTurn (.GeneratorExp elt [⟨tg, iter, ifs, 0⟩] scope pos) 0 (.ref it) .none X.env).onRaise (leaving X.env)) [] s
        rw [compTurn_gen, Sem.onRaise_eq_wrap]
        refine seg_bind_wrap (wpAny_standAt ?_)
        have hM := M i1 φ S1 H h1 k1 R
        unfold pullV at hp
        split at hp
        · cases hp
        · rename_i e2
          rw [e2] at hM
          cases hp
          refine seg_bind_wrap ?_
          rw [hov]
          refine wpAny_mono (TT.done X rfl rfl rfl hca i1 cp s σ H (fun _ _ => False) I hfp hst hM) (fun r s1 ⟨er, I1⟩ => ?_) fun _ _ z => z.elim
          subst er
          exact seg_end (.ok .next) (.inl ⟨.inr rfl, j, ys, i, σD, S, S1, hjk, htr, hres, φ, H, σ, cp, h1, k1, R, z, I1⟩)
        · rename_i d e2
          rw [e2] at hM
          replace hM : J.go i1 H ∧ ∀ x H', J.yld i1 H x H' → ∃ φ2, φ <+: φ2 ∧ Keep H H' ∧ Rel (ctOf X T) φ2 S1 H' ∧ Rep X.K φ2 H' x d := hM
          refine seg_bind_wrap ?_
          rw [hov]
          refine wpAny_mono (TT.item X rfl rfl rfl hca i1 cp s σ H (fun _ _ => False) I hfp hst hM.1) (fun r s1 ⟨u, er, hgo⟩ => ?_) fun _ _ z => z.elim
          subst er
          refine seg_bind_wrap ?_
          rw [hov]
          refine wpAny_mono hgo (fun _ s2 ⟨x, H2, I2, rx, hy, hst2, hn2⟩ => ?_) fun _ _ z => z.elim
          obtain ⟨φ2, h2, k2, R2, r2⟩ := hM.2 x H2 hy
          have fpk : ∀ {H' : Hp}, (∀ b ∈ fp, H' b = none) → ∀ b ∈ fp, FpOk X cp H' b := fun hn b hb => ⟨hn b hb, (hfp b hb).2⟩
          have hobj : ∀ b ∈ fp, ∃ o, s2.heap.get? b = some o ∧ ∀ v, o.data ≠ .cell v := TT.obj _ _ hst2
          have I2' := I2.pinned (fpk hn2) hobj
          -- what follows a step that left all beside it
          have back : ∀ {σ7 : L2.St} {H7 : Hp} {s7 : Shared}, Inv X (cp ++ pinsAt fp s2.heap) σ7 H7 s7 → Inv X cp σ7 H7 s7 ∧ tn (i1 + 1) s7.heap ∧ ∀ b ∈ fp, FpOk X cp H7 b := fun {σ7 H7 s7} I7 =>
            ⟨I7.unpinned, TT.keep _ _ _ hst2 fun b hb o e => (I7.pin (b, o) (List.mem_append_right _ (List.mem_append_right _ (mem_pinsAt hb e)))).1, fpk fun b hb => by
              obtain ⟨o, e, _⟩ := hobj b hb
              exact (I7.pin (b, o) (List.mem_append_right _ (List.mem_append_right _ (mem_pinsAt hb e)))).2.1⟩
          split at hp
          · cases hp
          · rename_i σ3 S3 e3
            refine seg_bind_wrap ?_
            rw [hov]
            refine wpAny_mono (hg.run _ s2 σ H2 x u (fun σ' H' => ∃ φ', φ2 <+: φ' ∧ Keep H2 H' ∧ Rel (ctOf X T) φ' S3 H' ∧ SlotRel X.K φ' H' σ3 σ') I2' rx
              ⟨φ2, σ1, S1, d, σ3, S3, R2, L.mono h2 k2, r2, e3, fun φ' σ' H' a b c d => ⟨φ', a, b, c, d⟩⟩) (fun _ s3 ⟨σ3', H3, I3, φ3, h3, k3, R3, L3⟩ => ?_) fun _ _ z => by rw [hxe] at z; exact z.elim
            split at hp
            · cases hp
            · rename_i S4 e4
              refine seg_bind_wrap ?_
              rw [hov]
              refine wpAny_mono (ht.run _ s3 σ3' H3 (fun b H' => b = false ∧ ∃ φ', φ3 <+: φ' ∧ Keep H3 H' ∧ Rel (ctOf X T) φ' S4 H') I3
                ⟨φ3, σ3, S3, false, S4, R3, L3, e4, fun b H' ⟨φ', a, b', c, d⟩ => ⟨d, φ', a, b', c⟩⟩) (fun ok s4 ⟨H4, I4, eok, φ4, h4, k4, R4⟩ => ?_) fun _ _ z => by rw [hxe] at z; exact z.elim
              subst eok
              rw [if_neg Bool.false_ne_true]
              obtain ⟨J1, J2, J3⟩ := back I4
              exact seg_again rfl (ihm (i1 + 1) σ3 S4 s4 hp ⟨φ4, H4, σ3', cp, ((h1.trans h2).trans h3).trans h4, ((k1.trans k2).trans k3).trans k4, R4, L3.mono h4 k4, hZ _ _ _ _ _ _ ((h2.trans h3).trans h4) ((k2.trans k3).trans k4) z, J1, J2, J3⟩)
            · rename_i S4 e4
              refine seg_bind_wrap ?_
              rw [hov]
              refine wpAny_mono (ht.run _ s3 σ3' H3 (fun b H' => b = true ∧ ∃ φ', φ3 <+: φ' ∧ Keep H3 H' ∧ Rel (ctOf X T) φ' S4 H') I3
                ⟨φ3, σ3, S3, true, S4, R3, L3, e4, fun b H' ⟨φ', a, b', c, d⟩ => ⟨d, φ', a, b', c⟩⟩) (fun ok s4 ⟨H4, I4, eok, φ4, h4, k4, R4⟩ => ?_) fun _ _ z => by rw [hxe] at z; exact z.elim
              subst eok
              rw [if_pos rfl]
              split at hp
              · cases hp
              · rename_i y S5 e5
                cases hp
                have hy : ∀ v, yieldOut X.env v = yieldValue v := fun v => by simp only [yieldOut, hco, Bool.false_eq_true, if_false]
                simp only [hy]
                rw [Sem.bind_eq_wrap', Sem.bind_eq_wrap', Sem.wrap_wrap, Sem.wrap_wrap]
                refine seg_wrap ?_
                rw [hov]
                refine wpAny_mono (he.run _ s4 σ3' H4 (fun v H' => ∃ φ', φ4 <+: φ' ∧ Keep H4 H' ∧ Rel (ctOf X T) φ' S5 H' ∧ Rep X.K φ' H' v y) I4
                  ⟨φ4, σ3, S4, y, S5, R4, L3.mono h4 k4, e5, fun v H' ⟨φ', a, b', c, d⟩ => ⟨φ', a, b', c, d⟩⟩) (fun v s5 ⟨xv, H5, I5, rv, φ5, h5, k5, R5, r5⟩ => ?_) fun _ _ z => by rw [hxe] at z; exact z.elim
                obtain ⟨J1, J2, J3⟩ := back I5
                have hp5 := ((h2.trans h3).trans h4).trans h5
                have kp5 := ((k2.trans k3).trans k4).trans k5
                refine seg_at (seg_yield rfl rfl rfl ⟨j, ys, i, σD, S, y, i1 + 1, σ3, S5, by omega, htr, hres, ⟨φ5, H5, σ3', cp, xv, h1.trans hp5, k1.trans kp5, R5, (L3.mono h4 k4).mono h5 k5, hZ _ _ _ _ _ _ hp5 kp5 z, J1, J2, J3, rv, r5⟩, fun s'' hin hk hne => ?_⟩)
                refine seg_again rfl (ih (j + 1) (ys ++ [y]) (i1 + 1) σ3 S5 s'' s'' (by omega) hk ?_ hne hin)
                show (match G.tr σ0 S0 j with
                  | some (ys, i, σ, S) => match G.pull i σ S with
                    | some (some (y, i', σ'), S') => some (ys ++ [y], i', σ', S')
                    | _ => none
                  | none => none) = _
                rw [htr]
                dsimp only
                rw [show G.pull i σD S = _ from hres]
    exact inner G.lf i σD S s hres hG

/-! ### a pull -/
theorem inv_gens {cp : List (Addr × Obj)} {σ : L2.St} {H : Hp} {s : Shared} (I : Inv X cp σ H s) {gs : Array GenState} (hb : AllBare gs) : Inv X cp σ H { s with gens := gs } :=
  I.call' (s' := { s with gens := gs }) (ch := []) rfl (Un.kept fun _ _ e => e) I.hok hb fun b z => by simp at z
theorem GIn.gens {ys : List D} {i : Nat} {σD : Slots} {S : Store} {s : Shared} (h : GIn X T Z fp tn φ0 H0 ys i σD S s) {gs : Array GenState} (hb : AllBare gs) : GIn X T Z fp tn φ0 H0 ys i σD S { s with gens := gs } := by
  obtain ⟨φ, H, σ, cp, a, b, c, d, e, I, f, g⟩ := h
  exact ⟨φ, H, σ, cp, a, b, c, d, e, inv_gens I hb, f, g⟩
theorem GYd.gens {ys : List D} {y : D} {i : Nat} {σD : Slots} {S : Store} {v : Value} {s : Shared} (h : GYd X T Z fp tn φ0 H0 ys y i σD S v s) {gs : Array GenState} (hb : AllBare gs) : GYd X T Z fp tn φ0 H0 ys y i σD S v { s with gens := gs } := by
  obtain ⟨φ, H, σ, cp, x, a, b, c, d, e, I, f, g⟩ := h
  exact ⟨φ, H, σ, cp, x, a, b, c, d, e, inv_gens I hb, f, g⟩
theorem GEd.gens {ys : List D} {S : Store} {s : Shared} (h : GEd X T Z φ0 H0 ys S s) {gs : Array GenState} (hb : AllBare gs) : GEd X T Z φ0 H0 ys S { s with gens := gs } := by
  obtain ⟨φ, H, σ, cp, a, b, c, e, I⟩ := h
  exact ⟨φ, H, σ, cp, a, b, c, e, inv_gens I hb⟩
variable (X T Z fp tn φ0 H0 G σ0 S0 n A) in
/-- ahead of a pull; at most k more -/
def CSt (g : Nat) (k : Nat) (s : Shared) : Prop := ∃ gs, s.gens[g]? = some gs ∧ gs.Goes (model X.prog X.w) A.in1 (RG X T Z φ0 H0 G σ0 S0 n) (YG X T Z fp tn φ0 H0 G σ0 S0 n) k (.send .none) (s.setGen g .running)
theorem pull_ok {a : Addr} {g : Nat} {s : Shared} {k j : Nat} {ys : List D} {i : Nat} {σD : Slots} {S : Store} {Q : Option Value → Shared → Prop} {E : Value → Shared → Prop} (hpn : ∀ {cp σ H s}, Inv X cp σ H s → s.heap.IsGen a g)
    (hh : A.handled = none) (hd : A.depth < recursionLimit) (hjk : j + (k + 1) = n) (htr : G.tr σ0 S0 j = some (ys, i, σD, S)) (hin : GIn X T Z fp tn φ0 H0 ys i σD S s) (hc : CSt X T Z fp tn φ0 H0 G σ0 S0 n A g (k + 1) s) (hne : G.pull i σD S ≠ none)
    (hend : ∀ S' s', G.pull i σD S = some (none, S') → GEd X T Z φ0 H0 ys S' s' → Q none s')
    (hitem : ∀ y i' σ' S' v s', G.pull i σD S = some (some (y, i', σ'), S') → GYd X T Z fp tn φ0 H0 ys y i' σ' S' v s' →
      (∀ s'', s''.gens = s'.gens → GIn X T Z fp tn φ0 H0 (ys ++ [y]) i' σ' S' s'' → 0 < k → G.pull i' σ' S' ≠ none → CSt X T Z fp tn φ0 H0 G σ0 S0 n A g k s'') → Q (some v) s') :
    wpAny (model X.prog X.w) A (pyNext (.ref a)) Q E s := by
  obtain ⟨gs, hgs, hgo⟩ := hc
  have hgl : g < s.gens.size := (Array.getElem?_eq_some_iff.mp hgs).1
  obtain ⟨φ, H, σ, cp, q1, q2, q3, q4, q5, I, q6, q7⟩ := id hin
  refine wpAny_gsz (n := g + 1) hgl (next_genG (F := fun k _ s1 => FG X T Z φ0 H0 G σ0 S0 n k s1) (Er := fun _ _ => False) hh I.nolimit hd (hpn I) hgs hgo (fun v s1 gs' hbare hv => ?_) (fun s1 hp h' hk => ?_) fun e s1 z => z.elim)
  · intro hsz
    obtain ⟨j', ys', i0, σ1, S1, y, i', σ', S', e1, e2, e3, hY, hk⟩ := hv
    have ej : j' = j := by omega
    subst ej
    rw [htr] at e2
    cases e2
    have hb1 : AllBare s1.gens := by
      obtain ⟨_, _, _, _, _, _, _, _, _, _, I, _⟩ := hY
      exact I.bare
    have hsz1 : g < s1.gens.size := by
      have q : (s1.setGen g gs').gens.size = s1.gens.size := setGen_size _ _ _
      have hsz' : g + 1 ≤ (s1.setGen g gs').gens.size := hsz
      omega
    refine hitem y i' σ' S' v _ e3 (hY.gens (allBare_setGen hb1 hbare)) fun s'' hg'' hin'' h0 hne'' => ⟨gs', by rw [hg'']; exact setGen_at hsz1, ?_⟩
    have hb2 : AllBare s''.gens := by
      obtain ⟨_, _, _, _, _, _, _, _, _, I, _⟩ := hin''
      exact I.bare
    exact hk _ (hin''.gens (allBare_setGen hb2 rfl)) (by omega) hne''
  · intro hsz
    obtain ⟨j', ys', i0, σ1, S1, S', e1, e2, e3, hE⟩ := hp
    have ej : j' = j := by omega
    subst ej
    rw [htr] at e2
    cases e2
    have hb1 : AllBare s1.gens := by
      obtain ⟨_, _, _, _, _, _, _, _, I⟩ := hE
      exact I.bare
    have hE2 := hE.gens (allBare_setGen (s := s1) (g := g) (x := .finished) hb1 rfl)
    obtain ⟨φ, H, σ, cp, a1, b1, c1, e1', I1⟩ := hE2
    exact hend S' _ e3 ⟨φ, H, σ, cp, a1, b1, c1, e1', I1.kept (t' := s1.toks) hk⟩
end
end RF

end

/-! ## SE -/
section
set_option maxRecDepth 100000
/-! A generator expression is made: the context of its frame. -/
namespace RF
open PySem PySem.Spec PyProof.Rows L2 GenW

/-- the scope of a generator expression: no cells of its own; what it captures the def has -/
structure GnScope (N : List Str) (env : Env) (scope : Scope) : Prop where
  kind : scope.kind = .function
  co : scope.isCoroutine = false
  cell : ∀ y ∈ scope.names, y.2 ≠ .cell
  dot : scope.names.lookup (".0" : Str) = some NameKind.local
  free : ∀ y ∈ scope.names, y.2 = .free → ∃ c, env.cells.lookup y.1 = some c
  /-- which of its names stand in the slots with a value from the start: only captured ones -/
  nd : N.Nodup
abbrev gcells (X : Cx) (scope : Scope) : List (Str × Addr) := cloFrom X.env.cells scope.names []
abbrev genX (X : Cx) (A : Around) (N : List Str) (sc : Shared) (H : Hp) (cenv : Env) (fp : List Addr) (pn : List (Addr × Obj)) : Cx :=
  { X with A := A, N := N, s_0 := sc, H_0 := H, env := cenv, outer := X.stack, stack := cenv :: X.stack, ex := fp, fn := fun _ => false, calm := true, pn := pn, xe := fun _ _ => False }
section
variable {X : Cx} {pins pn : List (Addr × Obj)} {σ σ' : L2.St} {H : Hp} {s s5 : Shared} {A : Around} {N : List Str} {scope : Scope} {fp : List Addr} {code : Value}
theorem gcell_mem {y : Str} {c : Addr} (S : GnScope N X.env scope) (h : (gcells X scope).lookup y = some c) : X.env.cells.lookup y = some c := by
  rcases cloFrom_mem (PySem.mem_of_lookup h) with hm | ⟨h1, rfl⟩
  · cases hm
  · obtain ⟨c, hc⟩ := S.free _ h1 rfl
    rw [hc]
    rfl
theorem gcell_has {y : Str} (S : GnScope N X.env scope) (h : scope.names.lookup y = some .free) : ∃ c, (gcells X scope).lookup y = some c ∧ X.env.cells.lookup y = some c := by
  obtain ⟨c, hc⟩ := mem_lookup (cloFrom_has (cells := X.env.cells) (acc := []) (PySem.mem_of_lookup h))
  exact ⟨c, hc, gcell_mem S hc⟩
theorem gen_inv (S : GnScope N X.env scope) (I : Inv X pins σ H s) (hA : A.handled = none) (hfr : A.frames = some (genEnv scope (gcells X scope) s.heap.objs.size code builtinsNs X.env :: X.stack))
    (hfp : ∀ b ∈ fp, FpOk X pins H b ∧ b < s.heap.objs.size) (os : s5.os = s.os) (hb : AllBare s5.gens) (kp : ∀ b o, s.heap.get? b = some o → s5.heap.get? b = some o) (hns : ∃ m, s5.heap.Ns s.heap.objs.size m)
    (hpn : ∀ p ∈ pn, s5.heap.get? p.1 = some p.2 ∧ s.heap.objs.size < p.1 ∧ ∀ v, p.2.data ≠ .cell v) (hlen : List.length σ' = N.length)
    (hσ : ∀ (i : Nat) (y : Str) (v : V), N[i]? = some y → (σ' : List (Option V))[i]? = some (some v) → scope.names.lookup y = some .free ∧ ∃ k : Nat, X.N[k]? = some y ∧ (σ : List (Option V))[k]? = some (some v) ∧ (X.env.scope.names.lookup y = some .cell ∨ X.env.scope.names.lookup y = some .free)) :
    Inv (genX X A N s H (genEnv scope (gcells X scope) s.heap.objs.size code builtinsNs X.env) fp pn) [] σ' H s5 := by
  have ltC : ∀ {y c}, (gcells X scope).lookup y = some c → c < s.heap.objs.size := fun {y c} e => by
    obtain ⟨w, z⟩ := I.cell _ _ (gcell_mem S e)
    exact z.lt
  have okG : (genX X A N s H (genEnv scope (gcells X scope) s.heap.objs.size code builtinsNs X.env) fp pn).Ok := by
    refine ⟨I.ok.mod, S.kind, I.ok.glob, rfl, Nat.le_refl _, fun y z c e1 e2 => I.ok.inj y z c (gcell_mem S e1) (gcell_mem S e2), fun y hy => ?_, fun y c z e => Bool.noConfusion z, fun _ => hA, hfr, .inr ⟨rfl, rfl⟩, fun b hb => ⟨Nat.ne_of_lt (hfp b hb).2, fun y c e z => ?_⟩,
      I.bs, Nat.le_trans I.ok.bsz I.sz, fun b o e hb => ?_, fun b hb z => ?_, I.stack, I.stkFree⟩
    · rcases hy with hy | hy
      · exact absurd rfl (S.cell _ (PySem.mem_of_lookup hy))
      · obtain ⟨c, h1, _⟩ := gcell_has S hy
        exact ⟨c, h1⟩
    · exact (hfp b hb).1.2.2.2.2.1 y c (gcell_mem S e) z
    · rcases (hfp b hb).1.2.2.2.1 with z | z
      · exact I.ok.noex b o e z
      · exact absurd (Nat.lt_of_lt_of_le (Heap.lt_size e) (Nat.le_trans I.ok.bsz z)) (Nat.lt_irrefl _)
    · rcases List.mem_cons.mp (I.stkSub b z) with z | z
      · exact (hfp b hb).1.2.1 z
      · exact (hfp b hb).1.2.2.1 z
  obtain ⟨m, hn⟩ := hns
  refine ⟨okG, os, hb, Un.kept kp, ⟨m, hn, fun i y av e1 e2 e3 => ?_⟩, fun y c e => ?_, I.hok.fresh (Nat.le_refl _), fun y c e => I.freeC y c (gcell_mem S e), fun p hp => ?_, I.hok.kept kp, hlen⟩
  · obtain ⟨h1, k, h2, h3, h4⟩ := hσ i y av e1 e2
    obtain ⟨m0, hn0, hl⟩ := I.loc
    obtain ⟨u, r, q⟩ := hl k y av h2 h3 (h4.elim (fun z => .inr (.inl z)) fun z => .inr (.inr z))
    refine ⟨u, r, .inr ⟨.inr h1, ?_⟩⟩
    obtain ⟨c, g1, g2⟩ := gcell_has S h1
    rcases q with ⟨k', _⟩ | ⟨_, c', e', z⟩
    · have k' : X.env.scope.names.lookup y = some .local := k'
      rcases h4 with h4 | h4 <;> rw [h4] at k' <;> cases k'
    · rw [g2] at e'; cases e'
      exact ⟨c, g1, z.keeps kp⟩
  · obtain ⟨w, z⟩ := I.cell y c (gcell_mem S e)
    exact ⟨w, z.keeps kp⟩
  · have hp : p ∈ pn := by simpa using hp
    obtain ⟨h1, h2, h3⟩ := hpn p hp
    exact ⟨h1, I.hok.fresh (Nat.le_of_lt h2), Nat.ne_of_gt h2, fun z => by
      rcases List.mem_cons.mp (I.stkSub p.1 z) with z | z
      · have := I.lt
        rw [← z] at this
        exact absurd (Nat.lt_trans h2 this) (Nat.lt_irrefl _)
      · obtain ⟨_, o, ho, _⟩ := I.ok.funs.mem z
        exact absurd (Nat.lt_trans h2 (Nat.lt_of_lt_of_le (Heap.lt_size ho) I.sz)) (Nat.lt_irrefl _), h3⟩
/-- behind its run: back in the def's own context -/
theorem gen_back {cenv : Env} {cp : List (Addr × Obj)} {H' : Hp} {s' : Shared} {σ1 : L2.St} (I : Inv X pins σ H s) (hfp : ∀ b ∈ fp, FpOk X pins H b) (J : Inv (genX X A N s H cenv fp pn) cp σ1 H' s') : Inv X pins σ H' s' :=
  I.call' (ch := fp) J.os J.base J.hok J.bare fun b hb => ⟨(hfp b hb).2.2.2.1, (hfp b hb).2.1, (hfp b hb).2.2.2.2.1, (hfp b hb).2.2.2.2.2⟩
end
end RF

end

/-! ## SF -/
section
set_option maxRecDepth 100000
/-! A generator expression is made, and first woken. -/
namespace RF
open PySem PySem.Spec PyProof.Rows L2 GenW GxR

/-! ### around -/
theorem over_loopG {A : Around} {elt : Expr} {gs : List Comprehension} {scope : Scope} {pos : Pos} {it acc : Value} {env : Env} : A.over (.compLoop (.GeneratorExp elt gs scope pos) 0 it acc env) [] = A.deeper env := by
  first
    | rfl
    | (obtain ⟨hd, d, fr, gs, u⟩ := A; simp [Around.over, Around.deeper, marksOver, frameCount, unitsOf, envsOf, guardsOf, pushEnvs, pushGuards, Code.envs, Code.env?, Code.isFrame, Code.guards, Code.isGuard, Code.weight, Code.frames, Code.isCreation, Code.isCaller, Code.cUnits])
theorem over_startG {A : Around} {elt : Expr} {gs : List Comprehension} {scope : Scope} {pos : Pos} {it acc : Value} {env : Env} : A.over (.compStart (.GeneratorExp elt gs scope pos) 0 it acc env) [] = A.deeper env := by
  first
    | rfl
    | (obtain ⟨hd, d, fr, gs, u⟩ := A; simp [Around.over, Around.deeper, marksOver, frameCount, unitsOf, envsOf, guardsOf, pushEnvs, pushGuards, Code.envs, Code.env?, Code.isFrame, Code.guards, Code.isGuard, Code.weight, Code.frames, Code.isCreation, Code.isCaller, Code.cUnits])

/-! ### the first wake -/
section
variable {X : Cx} {T : List Addr} {Z : ZC} {fp : List Addr} {it : Addr} {tn : Nat → Heap → Prop} {φ0 : List Addr} {H0 : Hp} {G : Gn} {σ0 : Slots} {S0 : Store} {n : Nat} {J : It} {A : Around}
  {elt tg iter : Expr} {ifs : List Expr} {scope : Scope} {pos : Pos}
theorem seg_gstart (hZ : ZMono Z) (hxe : X.xe = fun _ _ => False) (hca : X.calm = true) (hA : X.A = A.deeper X.env) (hco : X.env.scope.isCoroutine = false)
    (TT : Turn X.prog X.w X.K tg J fp it tn) (M : MatchIt (ctOf X T) J G.src φ0 H0) (hg : SG T X tg G.g) (ht : STs T X ifs G.tt) (he : SE T X elt G.fe) {s₀ s : Shared} (hn : 0 < n) (hne : G.pull 0 σ0 S0 ≠ none) (hin : GIn X T Z fp tn φ0 H0 [] 0 σ0 S0 s) :
    Seg (model X.prog X.w) A (RG X T Z φ0 H0 G σ0 S0 n) (YG X T Z fp tn φ0 H0 G σ0 S0 n) n s₀ (.compStart (.GeneratorExp elt [⟨tg, iter, ifs, 0⟩] scope pos) 0 (.ref it) .none X.env)
      ((model X.prog X.w).den (.compStart (.GeneratorExp elt [⟨tg, iter, ifs, 0⟩] scope pos) 0 (.ref it) .none X.env)) [] s := by
  have loop := fun s₀ => seg_gen (iter := iter) (scope := scope) (pos := pos) (A := A) (n := n) (σ0 := σ0) (S0 := S0) hZ hxe hca (over_loopG.trans hA.symm) hco TT M hg ht he n 0 [] 0 σ0 S0 s₀ s (Nat.zero_add _) hn rfl hne hin
  obtain ⟨φ, H, σ, cp, q1, q2, q3, q4, q5, I, hst, q7⟩ := hin
  show Seg _ A _ _ _ s₀ _ ((compStart (.GeneratorExp elt [⟨tg, iter, ifs, 0⟩] scope pos) 0 (.ref it) .none X.env).onRaise (leaving X.env)) [] s
  unfold compStart
  rw [Sem.onRaise_eq_wrap]
  show Seg _ A _ _ _ s₀ _ ((ask >>= _).wrap _ _ _ _) [] s
  refine seg_bind_wrap (wpAny_askSetting ?_)
  split
  · exact seg_again rfl (loop s₀)
  · first
      | exact seg_bind_wrap (wpAny_rule (seg_bind_wrap (wpAny_standAt (seg_bind_wrap (TT.self _ 0 s _ _ hst (seg_again rfl (loop s₀)))))))
      | (refine seg_bind_wrap (wpAny_rule ?_); show Seg _ A _ _ _ s₀ _ ((standAt iter.pos >>= _).wrap _ _ _ _) [] s; exact seg_bind_wrap (wpAny_standAt (seg_bind_wrap (TT.self _ 0 s _ _ hst (seg_again rfl (loop s₀))))))
end

/-! ### the making -/
section
variable {X : Cx} {pins : List (Addr × Obj)} {σ : L2.St} {H : Hp} {s : Shared}
theorem gen_make {c P : Addr} {elt tg iter : Expr} {ifs : List Expr} {gpos : Pos} {scope : Scope} {N : List Str} {wi : TI} {k : Nat} {Q' : Value → Shared → Prop} {R : It → Hp → Prop}
    (hr : Room k X.A) (TB : TabB X.base X.mg c P) (hcode : X.env.code = .ref c) (S : GnScope N X.env scope) (hi : PI X tg iter wi) (hs : ∀ v, genFold iter X.env v = pure v) (I : Inv X pins σ H s) (h : wi σ H fun J H1 => TabG H1 P ∧ R J H1)
    (hQ : ∀ (J : It) (H1 H2 : Hp) (it : Addr) (fp : List Addr) (tn : Nat → Heap → Prop) (sc s5 : Shared) (code : Value) (a : Addr) (g : Nat) (go : Obj), R J H1 → Tabbed P H1 H2 → Inv X pins σ H2 sc → Turn X.prog X.w X.K tg J fp it tn → tn 0 s5.heap →
      (∀ b ∈ fp, FpOk X pins H2 b ∧ b < sc.heap.objs.size) → s5.os = sc.os → AllBare s5.gens → (∀ b o, sc.heap.get? b = some o → s5.heap.get? b = some o) → (∃ m, s5.heap.Ns sc.heap.objs.size m) → s5.heap.get? a = some go → sc.heap.objs.size < a →
      (go.cls = .type "generator" ∧ (∃ nm qn, go.data = .fields #[.int g 0, nm, qn]) ∧ go.slots = #[]) →
      s5.gens[g]? = some (.fresh (.compStart (.GeneratorExp elt [⟨tg, iter, ifs, 0⟩] scope gpos) 0 (.ref it) .none (genEnv scope (gcells X scope) sc.heap.objs.size code builtinsNs X.env))) → Q' (.ref a) s5) :
    wpAny (model X.prog X.w) X.A (eval (.GeneratorExp elt [⟨tg, iter, ifs, 0⟩] scope gpos) X.env) Q' X.xe s := by
  refine wpAny_GeneratorExp_make S.co (closure_ok S.free) S.cell S.dot S.kind (by have := hr.dp; omega) ?_ hs
  refine thn (hi.run pins s σ H _ I h) fun xv s1 h1 => thn h1 fun itv s2 h2 => ?_
  obtain ⟨it, fp, tn, J, H1, rfl, I1, TT, st1, f1, ⟨ps, hP, ht⟩, q1⟩ := h2
  have hPs : s2.heap.get? P = some { cls := .none, data := .fields ps } := I1.hok P _ hP
  have cd : PySem.W.CodeHd s2.heap c P := TB.code.keeps fun b u e => I1.bk b u e
  have nP : ∀ b ∈ fp, b ≠ P := fun b hb z => by
    have := (f1 b hb).1
    rw [z, hP] at this
    cases this
  refine ⟨I1.nolimit, ?_⟩
  have cont : ∀ (code : Value) (h3 : Heap) (tk : Nat) (more : Array Value), Heap.ExtBut P s2.heap h3 → s2.heap.objs.size ≤ h3.objs.size → h3.get? P = some { cls := .none, data := .fields (ps ++ more) } → TriplesOk (ps ++ more).toList →
      wpAny (model X.prog X.w) X.A (builtinsFor X.env.globals X.env.builtins) (fun bi s₄ =>
        ∀ h', h'.Ns s₄.heap.objs.size (fun y => if y = ".0" then some (.ref it) else none) → Heap.SameBut s₄.heap.objs.size (s₄.heap.push { cls := .type "frame", data := .dict #[] }) h' →
          Q' (.ref h'.objs.size) { s₄ with
            gens := s₄.gens.push (.fresh (.compStart (.GeneratorExp elt [⟨tg, iter, ifs, 0⟩] scope gpos) 0 (.ref it) .none (genEnv scope (gcells X scope) s₄.heap.objs.size code bi X.env))),
            toks := s₄.toks + 1 + 1 + 1,
            heap := h'.push { cls := .type "generator", data := .fields #[.int s₄.gens.size 0, .str "<genexpr>" (s₄.toks + 1), .str (X.env.qual ++ "<genexpr>") (s₄.toks + 1 + 1)] } }) X.xe { s2 with heap := h3, toks := tk } := by
    intro code h3 tk more hx hsz hP3 ht3
    obtain ⟨bm, ob, e1, e2, e3, e4, e5, e6, e7, e8⟩ := TB.bm
    have keep3 : ∀ b u, b ≠ P → s2.heap.get? b = some u → h3.get? b = some u := fun b u hb e => hx b u hb e
    refine wpAny_builtinsFor (m := X.mg) (by rw [I1.ok.glob]; exact (I1.mod.glob.keeps I1.bk).extBut hx TB.gP) e1 e2 (keep3 _ _ e4 (I1.bk _ _ e5)) e6 e7 e8 ?_
    intro h' hn' hs'
    have J3 := inv_tab (more := more) (h' := h3) (g' := s2.gens) (d' := s2.drawn) (t' := tk) I1 hP keep3 hP3 I1.bare
    have hsz5 : h'.objs.size = h3.objs.size + 1 := by rw [hs'.1, Heap.size_push]
    have keep' : ∀ b o, h3.get? b = some o → h'.get? b = some o := fun b o e => hs'.extBut b o (Nat.ne_of_lt (Heap.lt_size e)) (Heap.get?_push_of_some _ e)
    have kp : ∀ (go : Obj) b o, h3.get? b = some o → (h'.push go).get? b = some o := fun go b o e => Heap.get?_push_of_some _ (keep' b o e)
    have lt3 : ∀ b ∈ fp, b < h3.objs.size := fun b hb => by
      obtain ⟨o, e, _⟩ := TT.obj _ _ st1 b hb
      exact Heap.lt_size (keep3 b o (nP b hb) e)
    refine hQ J H1 (upd H1 P (.tbl (ps ++ more))) it fp tn { s2 with heap := h3, toks := tk } _ code h'.objs.size s2.gens.size _ q1 ⟨⟨ps ++ more, upd_same, ht3⟩, fun b hb => upd_ne hb⟩ J3 TT (TT.keep _ _ _ st1 fun b hb o e => kp _ b o (keep3 b o (nP b hb) e))
      (fun b hb => ⟨⟨by rw [upd_ne (nP b hb)]; exact (f1 b hb).1, (f1 b hb).2⟩, lt3 b hb⟩) rfl (AllBare.push I1.bare rfl) (kp _) ⟨_, hn'.push _⟩ (Heap.get?_push_size _ rfl) (by show h3.objs.size < h'.objs.size; omega) ⟨rfl, ⟨_, _, rfl⟩, rfl⟩ (Array.getElem?_push_size ..)
  cases hf : codeAmong gpos ps.toList with
  | none =>
    refine wpAny_genexprCodeX hcode (cd.code hPs ht) (cd.tab hPs) hf fun c' h' tk hx hge hlt hco' _ htab' _ => ?_
    obtain ⟨o1, vs, f1, tf, fl, tg, inF, tx, tt, op, _, _, _, _, _, _, _, _, _, htr, _⟩ := hco'
    exact cont _ h' tk _ hx (Nat.le_trans hge (Nat.le_of_lt hlt)) htab'.2 htr
  | some cv =>
    refine wpAny_genexprCode_hit hcode (cd.code hPs ht) hf ?_
    refine cont cv s2.heap s2.toks #[] (Heap.ExtBut.refl _ _) (Nat.le_refl _) (by simpa using hPs) (by simpa using ht)
end
end RF

end

/-! ## SG -/
section
set_option maxRecDepth 100000
/-! What eats a generator: any, all, sum, list.extend. -/
namespace RF
open PySem PySem.Spec PyProof.Rows L2 GenW GxR

/-! ### pure -/
def anyG (G : Gn) : Nat → Nat → Slots → Store → Option (Bool × Store)
  | 0, _, _, _ => none
  | m + 1, i, σ, S => match G.pull i σ S with
    | none => none
    | some (none, S') => some (false, S')
    | some (some (y, i', σ'), S') => match y with
      | .bl true => some (true, S')
      | .bl false => anyG G m i' σ' S'
      | _ => none
def allG (G : Gn) : Nat → Nat → Slots → Store → Option (Bool × Store)
  | 0, _, _, _ => none
  | m + 1, i, σ, S => match G.pull i σ S with
    | none => none
    | some (none, S') => some (true, S')
    | some (some (y, i', σ'), S') => match y with
      | .bl false => some (false, S')
      | .bl true => allG G m i' σ' S'
      | _ => none
def colG (G : Gn) : Nat → List D → Nat → Slots → Store → Option (List D × Store)
  | 0, _, _, _, _ => none
  | m + 1, ys, i, σ, S => match G.pull i σ S with
    | none => none
    | some (none, S') => some (ys, S')
    | some (some (y, i', σ'), S') => if ys.length < most then colG G m (ys ++ [y]) i' σ' S' else none
def lng (i : Int) : Bool := decide (-(2 ^ 63) ≤ i) && decide (i < 2 ^ 63)
def sumG (G : Gn) : Nat → Int → Nat → Slots → Store → Option (Int × Store)
  | 0, _, _, _, _ => none
  | m + 1, acc, i, σ, S => match G.pull i σ S with
    | none => none
    | some (none, S') => some (acc, S')
    | some (some (y, i', σ'), S') => match y with
      | .int z => if (lng z && lng (acc + z)) = true then sumG G m (acc + z) i' σ' S' else none
      | _ => none
theorem anyG_pull {G : Gn} {m i : Nat} {σ : Slots} {S : Store} {r : Bool × Store} (h : anyG G m i σ S = some r) : 0 < m ∧ G.pull i σ S ≠ none := by
  cases m with
  | zero => cases h
  | succ m =>
    refine ⟨Nat.succ_pos _, fun z => ?_⟩
    unfold anyG at h
    rw [z] at h
    cases h
theorem allG_pull {G : Gn} {m i : Nat} {σ : Slots} {S : Store} {r : Bool × Store} (h : allG G m i σ S = some r) : 0 < m ∧ G.pull i σ S ≠ none := by
  cases m with
  | zero => cases h
  | succ m =>
    refine ⟨Nat.succ_pos _, fun z => ?_⟩
    unfold allG at h
    rw [z] at h
    cases h
theorem colG_pull {G : Gn} {m i : Nat} {ys : List D} {σ : Slots} {S : Store} {r : List D × Store} (h : colG G m ys i σ S = some r) : 0 < m ∧ G.pull i σ S ≠ none := by
  cases m with
  | zero => cases h
  | succ m =>
    refine ⟨Nat.succ_pos _, fun z => ?_⟩
    unfold colG at h
    rw [z] at h
    cases h
theorem sumG_pull {G : Gn} {m i : Nat} {acc : Int} {σ : Slots} {S : Store} {r : Int × Store} (h : sumG G m acc i σ S = some r) : 0 < m ∧ G.pull i σ S ≠ none := by
  cases m with
  | zero => cases h
  | succ m =>
    refine ⟨Nat.succ_pos _, fun z => ?_⟩
    unfold sumG at h
    rw [z] at h
    cases h
theorem tr_step {G : Gn} {σ0 : Slots} {S0 : Store} {j : Nat} {ys : List D} {i : Nat} {σ : Slots} {S : Store} {y : D} {i' : Nat} {σ' : Slots} {S' : Store} (h : G.tr σ0 S0 j = some (ys, i, σ, S)) (e : G.pull i σ S = some (some (y, i', σ'), S')) : G.tr σ0 S0 (j + 1) = some (ys ++ [y], i', σ', S') := by
  show (match G.tr σ0 S0 j with
    | some (ys, i, σ, S) => match G.pull i σ S with
      | some (some (y, i', σ'), S') => some (ys ++ [y], i', σ', S')
      | _ => none
    | none => none) = _
  rw [h]
  dsimp only
  rw [e]

section
variable {X : Cx} {T : List Addr} {Z : ZC} {fp : List Addr} {tn : Nat → Heap → Prop} {φ0 : List Addr} {H0 : Hp} {G : Gn} {σ0 : Slots} {S0 : Store} {n : Nat} {A : Around} {R : Result → Shared → Prop} {a : Addr} {g : Nat}
variable (X T φ0 H0) in
/-- the generator is done with -/
def GFin (S : Store) (s : Shared) : Prop := ∃ φ H σ cp, φ0 <+: φ ∧ Keep H0 H ∧ Rel (ctOf X T) φ S H ∧ Inv X cp σ H s
theorem GEd.fin {ys : List D} {S : Store} {s : Shared} (h : GEd X T Z φ0 H0 ys S s) : GFin X T φ0 H0 S s := by
  obtain ⟨φ, H, σ, cp, a, b, c, e, I⟩ := h
  exact ⟨φ, H, σ, cp, a, b, c, I⟩
theorem GYd.fin {ys : List D} {y : D} {i : Nat} {σD : Slots} {S : Store} {v : Value} {s : Shared} (h : GYd X T Z fp tn φ0 H0 ys y i σD S v s) : GFin X T φ0 H0 S s := by
  obtain ⟨φ, H, σ, cp, x, a, b, c, d, e, I, _⟩ := h
  exact ⟨φ, H, σ, cp, a, b, c, I⟩
/-- a consumer that keeps nothing -/
def Z0 : ZC := fun _ _ _ cp => cp = []
theorem z0_mono : ZMono Z0 := fun _ _ _ _ _ _ _ _ h => h
theorem GYd.bool {ys : List D} {b : Bool} {i : Nat} {σD : Slots} {S : Store} {v : Value} {s : Shared} (h : GYd X T Z0 fp tn φ0 H0 ys (.bl b) i σD S v s) : v = .bool b ∧ GIn X T Z0 fp tn φ0 H0 (ys ++ [.bl b]) i σD S s := by
  obtain ⟨φ, H, σ, cp, x, a, b', c, d, e, I, f, g, r, q⟩ := h
  have := q.bl_inv
  subst this
  exact ⟨r, φ, H, σ, cp, a, b', c, d, e, I, f, g⟩
theorem any_loop (hpn : ∀ {cp σ H s}, Inv X cp σ H s → s.heap.IsGen a g) (hh : A.handled = none) (hd : A.depth < recursionLimit) :
    ∀ (m j k : Nat) (ys : List D) (i : Nat) (σD : Slots) (S : Store) (s : Shared) (b : Bool) (S' : Store), anyG G m i σD S = some (b, S') → j + k = n → m ≤ k → G.tr σ0 S0 j = some (ys, i, σD, S) → GIn X T Z0 fp tn φ0 H0 ys i σD S s → CSt X T Z0 fp tn φ0 H0 G σ0 S0 n A.in1 g k s →
      (∀ s', GFin X T φ0 H0 S' s' → R (.ok (.ret (.bool b))) s') → codeAny (model X.prog X.w) A (.builtin "any.loop" ⟨[.ref a], []⟩) R s := by
  intro m
  induction m with
  | zero => intro j k ys i σD S s b S' h; cases h
  | succ m ih =>
    intro j k ys i σD S s b S' h hjk hmk htr hin hc hR
    obtain ⟨k, rfl⟩ : ∃ k', k = k' + 1 := ⟨k - 1, by omega⟩
    refine codeAny_builtin F.entry_any_loop ?_
    rw [Around.under_plainId F.plain_any_loop _]
    show wpAny _ A.in1 (pyNext (.ref a) >>= _) _ _ s
    refine wpAny_bind (pull_ok (A := A.in1) hpn hh hd hjk htr hin hc (anyG_pull h).2 (fun S1 s1 e he => ?_) fun y i' σ' S1 v s1 e hy hnext => ?_)
    · unfold anyG at h
      rw [e] at h
      cases h
      exact wpAny_bind (wpAny_rule (wpAny_pure (hR s1 he.fin)))
    · unfold anyG at h
      rw [e] at h
      dsimp only at h
      split at h
      · cases h
        obtain ⟨rfl, hin'⟩ := hy.bool
        refine wpAny_bind (wpAny_holding (wpAny_truthy_bool ?_))
        refine wpAny_bind (wpAny_letGo ?_)
        simp only [if_true]
        exact wpAny_bind (wpAny_rule (wpAny_pure (hR s1 hy.fin)))
      · obtain ⟨rfl, hin'⟩ := hy.bool
        refine wpAny_bind (wpAny_holding (wpAny_truthy_bool ?_))
        refine wpAny_bind (wpAny_letGo ?_)
        simp only [Bool.false_eq_true, if_false]
        obtain ⟨h0, hne⟩ := anyG_pull h
        exact wpAny_pure ⟨plainId_quiet F.plain_any_loop _, ih (j + 1) k (ys ++ [.bl false]) i' σ' S1 s1 b S' h (by omega) (by omega) (tr_step htr e) hin' (hnext s1 rfl hin' (by omega) hne) hR⟩
      · cases h
theorem all_loop (hpn : ∀ {cp σ H s}, Inv X cp σ H s → s.heap.IsGen a g) (hh : A.handled = none) (hd : A.depth < recursionLimit) :
    ∀ (m j k : Nat) (ys : List D) (i : Nat) (σD : Slots) (S : Store) (s : Shared) (b : Bool) (S' : Store), allG G m i σD S = some (b, S') → j + k = n → m ≤ k → G.tr σ0 S0 j = some (ys, i, σD, S) → GIn X T Z0 fp tn φ0 H0 ys i σD S s → CSt X T Z0 fp tn φ0 H0 G σ0 S0 n A.in1 g k s →
      (∀ s', GFin X T φ0 H0 S' s' → R (.ok (.ret (.bool b))) s') → codeAny (model X.prog X.w) A (.builtin "all.loop" ⟨[.ref a], []⟩) R s := by
  intro m
  induction m with
  | zero => intro j k ys i σD S s b S' h; cases h
  | succ m ih =>
    intro j k ys i σD S s b S' h hjk hmk htr hin hc hR
    obtain ⟨k, rfl⟩ : ∃ k', k = k' + 1 := ⟨k - 1, by omega⟩
    refine codeAny_builtin F.entry_all_loop ?_
    rw [Around.under_plainId F.plain_all_loop _]
    show wpAny _ A.in1 (pyNext (.ref a) >>= _) _ _ s
    refine wpAny_bind (pull_ok (A := A.in1) hpn hh hd hjk htr hin hc (allG_pull h).2 (fun S1 s1 e he => ?_) fun y i' σ' S1 v s1 e hy hnext => ?_)
    · unfold allG at h
      rw [e] at h
      cases h
      exact wpAny_bind (wpAny_rule (wpAny_pure (hR s1 he.fin)))
    · unfold allG at h
      rw [e] at h
      dsimp only at h
      split at h
      · cases h
        obtain ⟨rfl, hin'⟩ := hy.bool
        refine wpAny_bind (wpAny_holding (wpAny_truthy_bool ?_))
        refine wpAny_bind (wpAny_letGo ?_)
        simp only [Bool.false_eq_true, if_false]
        exact wpAny_bind (wpAny_rule (wpAny_pure (hR s1 hy.fin)))
      · obtain ⟨rfl, hin'⟩ := hy.bool
        refine wpAny_bind (wpAny_holding (wpAny_truthy_bool ?_))
        refine wpAny_bind (wpAny_letGo ?_)
        simp only [if_true]
        obtain ⟨h0, hne⟩ := allG_pull h
        exact wpAny_pure ⟨plainId_quiet F.plain_all_loop _, ih (j + 1) k (ys ++ [.bl true]) i' σ' S1 s1 b S' h (by omega) (by omega) (tr_step htr e) hin' (hnext s1 rfl hin' (by omega) hne) hR⟩
      · cases h

/-! ### consumers with an own object -/
/-- the consumer's object at S: young, none of the generator's -/
structure Own (X : Cx) (fp : List Addr) (S : Addr) : Prop where
  apart : Apart X S
  pn : ∀ p ∈ X.pn, p.1 ≠ S
theorem inv_own {S : Addr} {o o' : Obj} {σ : L2.St} {H : Hp} {s : Shared} {h' : Heap} {t' : Nat} (hA : Apart X S) (hpn : ∀ p ∈ X.pn, p.1 ≠ S) (I : Inv X [(S, o)] σ H s) (k : ∀ b ob, b ≠ S → s.heap.get? b = some ob → h'.get? b = some ob) (e : h'.get? S = some o') (hd : ∀ v, o'.data ≠ .cell v) :
    Inv X [(S, o')] σ H { s with heap := h', toks := t' } := by
  obtain ⟨e0, hS0, hSL, hSf, _⟩ := I.pin (S, o) (List.mem_append_right _ List.mem_cons_self)
  have I0 : Inv X [] σ H s := I.pins_of fun p hp => by cases hp
  have J := I0.turned (t' := t') (it := S) k hS0 hSL (.inr hA.1) hA.2.2 fun p hp => hpn p (by simpa using hp)
  exact J.pins_of fun p hp => by
    rw [List.mem_singleton.mp hp]
    exact ⟨e, hS0, hSL, hSf, hd⟩
theorem fp_own {S : Addr} {o o' : Obj} {H : Hp} (h : ∀ b ∈ fp, FpOk X [(S, o)] H b) : ∀ b ∈ fp, FpOk X [(S, o')] H b := fun b hb => by
  obtain ⟨a, b', c, d, e, f⟩ := h b hb
  refine ⟨a, b', c, d, e, fun p hp => ?_⟩
  rcases List.mem_append.mp hp with hp | hp
  · exact f p (List.mem_append_left _ hp)
  · rw [List.mem_singleton.mp hp]
    exact f (S, o) (List.mem_append_right _ List.mem_cons_self)
theorem fp_ne {S : Addr} {o : Obj} {H : Hp} (h : ∀ b ∈ fp, FpOk X [(S, o)] H b) : ∀ b ∈ fp, b ≠ S := fun b hb z => (h b hb).2.2.2.2.2 (S, o) (List.mem_append_right _ List.mem_cons_self) z.symm
variable (X) in
/-- the list at S holds what is out -/
def ZL (S : Addr) : ZC := fun ys φ H cp => ∃ acc c xs, cp = [(S, lstObj acc c)] ∧ Vals xs acc.toList ∧ Reps X.K φ H xs ys
theorem zl_mono (S : Addr) : ZMono (ZL X S) := fun _ _ _ _ _ _ h1 k1 ⟨acc, c, xs, e, v, r⟩ => ⟨acc, c, xs, e, v, r.mono h1 k1⟩
variable (X T φ0 H0) in
/-- the generator is done with; the list at S holds it all -/
def LFin (S : Addr) (ys : List D) (St : Store) (s : Shared) : Prop := ∃ φ H σ acc c xs, φ0 <+: φ ∧ Keep H0 H ∧ Rel (ctOf X T) φ St H ∧ Inv X [(S, lstObj acc c)] σ H s ∧ Vals xs acc.toList ∧ Reps X.K φ H xs ys
theorem ext_loop {S : Addr} {res : Value} {it : Addr} {J : It} {P : Program} {w : World} {tg : Expr} (hA : Apart X S) (hSp : ∀ p ∈ X.pn, p.1 ≠ S) (TT : Turn P w X.K tg J fp it tn) (hpn : ∀ {cp σ H s}, Inv X cp σ H s → s.heap.IsGen a g) (hh : A.handled = none) (hd : A.depth < recursionLimit) :
    ∀ (m j k : Nat) (ys : List D) (i : Nat) (σD : Slots) (St : Store) (s : Shared) (zs : List D) (S' : Store), colG G m ys i σD St = some (zs, S') → j + k = n → m ≤ k → G.tr σ0 S0 j = some (ys, i, σD, St) → GIn X T (ZL X S) fp tn φ0 H0 ys i σD St s → CSt X T (ZL X S) fp tn φ0 H0 G σ0 S0 n A.in1 g k s →
      (∀ s', LFin X T φ0 H0 S zs S' s' → R (.ok (.ret res)) s') → codeAny (model X.prog X.w) A (.builtin "list.extend.loop" ⟨[.ref S, .ref a, res], []⟩) R s := by
  intro m
  induction m with
  | zero => intro j k ys i σD S s b S' h; cases h
  | succ m ih =>
    intro j k ys i σD St s zs S' h hjk hmk htr hin hc hR
    obtain ⟨k, rfl⟩ : ∃ k', k = k' + 1 := ⟨k - 1, by omega⟩
    refine codeAny_builtin F.entry_extend_loop ?_
    rw [Around.under_plainId F.plain_extend_loop _]
    show wpAny _ A.in1 (pyNext (.ref a) >>= _) _ _ s
    refine wpAny_bind (pull_ok (A := A.in1) hpn hh hd hjk htr hin hc (colG_pull h).2 (fun S1 s1 e he => ?_) fun y i' σ' S1 v s1 e hy hnext => ?_)
    · unfold colG at h
      rw [e] at h
      cases h
      obtain ⟨φ, H, σ, cp, h1, k1, R1, ⟨acc, c, xs, rfl, rv, rs⟩, I⟩ := he
      exact wpAny_pure (hR s1 ⟨φ, H, σ, acc, c, xs, h1, k1, R1, I, rv, rs⟩)
    · unfold colG at h
      rw [e] at h
      dsimp only at h
      split at h
      · rename_i hlt
        obtain ⟨φ, H, σ, cp, x, h1, k1, R1, L1, ⟨acc, c, xs, rfl, rv, rs⟩, I, hst, hfp, rx, ry⟩ := hy
        have eS : s1.heap.get? S = some (lstObj acc c) := (I.pin (S, lstObj acc c) (List.mem_append_right _ List.mem_cons_self)).1
        have hasz : acc.size < sizeLine := by
          have e1 := rv.length
          have e2 := rs.length
          have e3 : acc.toList.length = acc.size := by simp
          have := most_line (Nat.le_refl most)
          omega
        show wpAny _ A.in1 (updateSeq S (·.push v) >>= _) _ _ _
        refine wpAny_bind ?_
        have keep3 : ∀ b o, b ≠ S → s1.heap.get? b = some o → (s1.heap.update S (Obj.mapSeq (·.push v))).get? b = some o := fun b o hbS e => (Heap.get?_update_other _ _ (Ne.symm hbS)).trans e
        have I2 := inv_own (t' := s1.toks) hA hSp I keep3 (Heap.get?_update_self _ eS rfl) fun v z => by cases z
        have hin' : GIn X T (ZL X S) fp tn φ0 H0 (ys ++ [y]) i' σ' S1 { s1 with heap := s1.heap.update S (Obj.mapSeq (·.push v)) } :=
          ⟨φ, H, σ, _, h1, k1, R1, L1, ⟨acc.push v, _, xs ++ [x], rfl, by rw [Array.toList_push]; exact rv.append (.cons rx .nil), rs.append (.cons ry .nil)⟩, I2, TT.keep _ _ _ hst fun b hb o e => keep3 b o (fp_ne hfp b hb) e, fp_own hfp⟩
        obtain ⟨h0, hne⟩ := colG_pull h
        refine wpAny_updateSeq eS rfl (wpAny_pure ⟨plainId_quiet F.plain_extend_loop _, ih (j + 1) k (ys ++ [y]) i' σ' S1 _ zs S' h (by omega) (by omega) (tr_step htr e) hin' (hnext _ rfl hin' (by omega) hne) hR⟩) (Nat.le_of_lt hasz) (by show (acc.push v).size ≤ sizeLine + 1; rw [Array.size_push]; omega)
      · cases h
variable (X) in
/-- the object at S holds the sum -/
def ZS (S : Addr) : ZC := fun ys φ H cp => ∃ (acc : Int) (t : Tok) (c : Nat), cp = [(S, lstObj #[.int acc t] c)] ∧ ys.foldl (fun z y => match y with | .int i => z + i | _ => z) 0 = acc
theorem zs_mono (S : Addr) : ZMono (ZS S) := fun _ _ _ _ _ _ h1 k1 h => h
theorem lng_iff {i : Int} : lng i = true ↔ -(2 ^ 63) ≤ i ∧ i < 2 ^ 63 := by unfold lng; simp
theorem sum_loop {S : Addr} {it : Addr} {J : It} {P : Program} {w : World} {tg : Expr} (hA : Apart X S) (hSp : ∀ p ∈ X.pn, p.1 ≠ S) (TT : Turn P w X.K tg J fp it tn) (hpn : ∀ {cp σ H s}, Inv X cp σ H s → s.heap.IsGen a g) (hh : A.handled = none) (hd : A.depth < recursionLimit) :
    ∀ (m j k : Nat) (ys : List D) (acc : Int) (i : Nat) (σD : Slots) (St : Store) (s : Shared) (z : Int) (S' : Store), sumG G m acc i σD St = some (z, S') → ys.foldl (fun z y => match y with | .int i => z + i | _ => z) 0 = acc → j + k = n → m ≤ k → G.tr σ0 S0 j = some (ys, i, σD, St) →
      GIn X T (ZS S) fp tn φ0 H0 ys i σD St s → CSt X T (ZS S) fp tn φ0 H0 G σ0 S0 n A.in1 g k s →
      (∀ s' t', GFin X T φ0 H0 S' s' → R (.ok (.ret (.int z t'))) s') → codeAny (model X.prog X.w) A (.builtin "sum.loop" ⟨[.ref a, .ref S, rawInt 0, rawInt 0], []⟩) R s := by
  intro m
  induction m with
  | zero => intro j k ys acc i σD S s b S' h; cases h
  | succ m ih =>
    intro j k ys acc i σD St s z S' h hacc hjk hmk htr hin hc hR
    obtain ⟨k, rfl⟩ : ∃ k', k = k' + 1 := ⟨k - 1, by omega⟩
    refine codeAny_builtin F.entry_sum_loop ?_
    rw [Around.under_plainId F.plain_sum_loop _]
    show wpAny _ A.in1 (seqItems? (.ref S) >>= _) _ _ s
    obtain ⟨φ0', H0', σ0', cp0, _, _, _, _, ⟨acc0, t0, c0, rfl, ha0⟩, I0, _, _⟩ := id hin
    have eS0 : s.heap.get? S = some (lstObj #[.int acc0 t0] c0) := (I0.pin (S, lstObj #[.int acc0 t0] c0) (List.mem_append_right _ List.mem_cons_self)).1
    obtain rfl : acc0 = acc := ha0.symm.trans hacc
    refine wpAny_bind (wpAny_seqItems eS0 rfl ?_)
    show wpAny _ A.in1 (tryCatch (pyNext (.ref a)) _ >>= _) _ _ s
    refine wpAny_bind (wpAny_tryCatch (pull_ok (A := A.in1) hpn hh hd hjk htr hin hc (sumG_pull h).2 (fun S1 s1 e he => ?_) fun y i' σ' S1 v s1 e hy hnext => ?_))
    · unfold sumG at h
      rw [e] at h
      cases h
      exact wpAny_pure (hR s1 t0 he.fin)
    · unfold sumG at h
      rw [e] at h
      dsimp only at h
      split at h
      · rename_i zi
        split at h
        · rename_i hl
          simp only [Bool.and_eq_true] at hl
          obtain ⟨⟨f1, f2⟩, f3, f4⟩ := And.intro (lng_iff.mp hl.1) (lng_iff.mp hl.2)
          obtain ⟨φ, H, σ, cp, x, h1, k1, R1, L1, ⟨acc1, t1, c1, rfl, ha1⟩, I, hst, hfp, rx, ry⟩ := hy
          obtain rfl : acc1 = acc0 := ha1.symm.trans hacc
          have := ry.int_inv
          subst this
          obtain ⟨t, rfl⟩ := _root_.id rx
          have eS : s1.heap.get? S = some (lstObj #[.int acc1 t1] c1) := (I.pin (S, lstObj #[.int acc1 t1] c1) (List.mem_append_right _ List.mem_cons_self)).1
          have hc' : ((decide (-(2 ^ 63) ≤ zi) && decide (zi < 2 ^ 63)) && (decide (-(2 ^ 63) ≤ acc1 + zi) && decide (acc1 + zi < 2 ^ 63))) = true := by
            simp only [Bool.and_eq_true, decide_eq_true_eq]
            exact ⟨⟨f1, f2⟩, f3, f4⟩
          show wpAny _ A.in1 (if (_ : Bool) = true then (mkInt (acc1 + zi) >>= _) else _) _ _ _
          split
          · refine wpAny_bind (wpAny_mkInt ?_)
            show wpAny _ A.in1 (updateSeq S (fun _ => #[.int (acc1 + zi) s1.toks]) >>= _) _ _ _
            refine wpAny_bind ?_
            have keep3 : ∀ b o, b ≠ S → s1.heap.get? b = some o → (s1.heap.update S (Obj.mapSeq (fun _ => #[.int (acc1 + zi) s1.toks]))).get? b = some o := fun b o hbS e => (Heap.get?_update_other _ _ (Ne.symm hbS)).trans e
            have hsum : (ys ++ [D.int zi]).foldl (fun z y => match y with | .int i => z + i | _ => z) 0 = acc1 + zi := by
              rw [List.foldl_append, hacc]
              rfl
            have I2 := inv_own (t' := s1.toks + 1) hA hSp I keep3 (Heap.get?_update_self _ eS rfl) fun v z => by cases z
            have hin' : GIn X T (ZS S) fp tn φ0 H0 (ys ++ [.int zi]) i' σ' S1 { s1 with heap := s1.heap.update S (Obj.mapSeq (fun _ => #[.int (acc1 + zi) s1.toks])), toks := s1.toks + 1 } :=
              ⟨φ, H, σ, _, h1, k1, R1, L1, ⟨acc1 + zi, s1.toks, _, rfl, hsum⟩, I2, TT.keep _ _ _ hst fun b hb o e => keep3 b o (fp_ne hfp b hb) e, fp_own hfp⟩
            obtain ⟨h0, hne⟩ := sumG_pull h
            refine wpAny_updateSeq eS rfl (wpAny_pure ⟨plainId_quiet F.plain_sum_loop _, ih (j + 1) k (ys ++ [.int zi]) (acc1 + zi) i' σ' S1 _ z S' h hsum (by omega) (by omega) (tr_step htr e) hin' (hnext _ rfl hin' (by omega) hne) hR⟩)
          · rename_i hneg
            exact absurd hc' hneg
        · cases h
      · cases h
end
end RF

end

/-! ## SH -/
section
set_option maxRecDepth 100000
/-! A generator expression, made and ready for its consumer. -/
namespace RF
open PySem PySem.Spec PyProof.Rows L2 GenW GxR

theorem keep_tabbed {P : Addr} {H H' : Hp} (hT : TabG H P) (t : Tabbed P H H') : Keep H H' := fun b xs e => by
  obtain ⟨ps, hP, _⟩ := hT
  rw [t.2 b (fun z => by rw [z, hP] at e; cases e)]
  exact e
theorem Rel.tabbed {c : Ct} {φ : List Addr} {S : Store} {P : Addr} {H H' : Hp} (R : Rel c φ S H) (hT : TabG H P) (t : Tabbed P H H') : Rel c φ S H' := by
  have k := keep_tabbed hT t
  obtain ⟨ps, hP, _⟩ := hT
  refine ⟨R.len, R.nd, fun n a o e1 e2 => (R.obj n a o e1 e2).stay (List.prefix_refl _) k fun u hu hp => ?_, fun Q hQ => ?_⟩
  · refine t.2 a fun z => ?_
    rw [z, hP] at hu
    cases hu
    cases hp
  · by_cases z : Q = P
    · rw [z]; exact t.1
    · obtain ⟨qs, h1, h2⟩ := R.tab Q hQ
      exact ⟨qs, by rw [t.2 Q z]; exact h1, h2⟩

/-! ### the names of the generator's frame -/
def capsC (N : List Str) (sc scope : Scope) (N' : List Str) : List (Option Nat) := N'.map fun y => match scope.names.lookup y with
  | some .free => match sc.names.lookup y with
    | some .cell => ixOf N y
    | some .free => ixOf N y
    | _ => none
  | _ => none
def capD {α : Type} (caps : List (Option Nat)) (σ : List (Option α)) : List (Option α) := caps.map fun o => match o with
  | some k => match σ[k]? with
    | some u => u
    | none => none
  | none => none
theorem capD_get {α : Type} {caps : List (Option Nat)} {σ : List (Option α)} {i : Nat} {v : α} (h : (capD caps σ)[i]? = some (some v)) : ∃ k, caps[i]? = some (some k) ∧ σ[k]? = some (some v) := by
  unfold capD at h
  rw [List.getElem?_map] at h
  cases e : caps[i]? with
  | none => rw [e] at h; cases h
  | some o =>
    rw [e] at h
    cases o with
    | none => cases h
    | some k =>
      refine ⟨k, rfl, ?_⟩
      simp only [Option.map_some, Option.some.injEq] at h
      cases e2 : σ[k]? with
      | none => rw [e2] at h; cases h
      | some u => rw [e2] at h; dsimp only at h; rw [h]
theorem capD_set {α : Type} {caps : List (Option Nat)} {σ : List (Option α)} {i k : Nat} {v : α} (h : caps[i]? = some (some k)) (e : σ[k]? = some (some v)) : (capD caps σ)[i]? = some (some v) := by
  unfold capD
  rw [List.getElem?_map, h]
  simp only [Option.map_some, e]
theorem cap_rel {K : PySem.W.Frag} {φ : List Addr} {H : Hp} {caps : List (Option Nat)} {σD : Slots} {σ : L2.St} (L : SlotRel K φ H σD σ) : SlotRel K φ H (capD caps σD) (capD caps σ) := by
  refine ⟨by unfold capD; simp, fun i d h => ?_⟩
  obtain ⟨k, h1, h2⟩ := capD_get h
  obtain ⟨v, h3, r⟩ := L.2 k d h2
  exact ⟨v, capD_set h1 h3, r⟩
def isFree (sc : Scope) (y : Str) : Bool := match sc.names.lookup y with
  | some .cell => true
  | some .free => true
  | _ => false
def gnC (sc scope : Scope) (N' : List Str) : Bool :=
  decide (scope.kind = .function) && (!scope.isCoroutine) && (scope.names.all fun y => decide (y.2 ≠ .cell)) && decide (scope.names.lookup (".0" : Str) = some NameKind.local) && (scope.names.all fun y => decide (y.2 ≠ .free) || isFree sc y.1) && decide N'.Nodup
section
variable {C : Cfg} {N N' : List Str} {sc scope : Scope} {lv : Nat} {X : Cx} {T : List Addr} {pins : List (Addr × Obj)} {σ : L2.St} {H : Hp} {s : Shared}
theorem isFree_kind (xb : XB C N sc lv X) {y : Str} (h : isFree sc y = true) : X.env.scope.names.lookup y = some .cell ∨ X.env.scope.names.lookup y = some .free := by
  unfold isFree at h
  split at h
  · rename_i k
    exact .inl ((xb.sr _ _ k).1 (by decide))
  · rename_i k
    rcases (xb.sr _ _ k).2 rfl with k | k
    · exact .inr k
    · exact .inl k
  · cases h
theorem gnC_ok (xb : XB C N sc lv X) (I : Inv X pins σ H s) (h : gnC sc scope N' = true) : GnScope N' X.env scope := by
  unfold gnC at h
  simp only [Bool.and_eq_true, decide_eq_true_eq, List.all_eq_true, Bool.or_eq_true, Bool.not_eq_true'] at h
  obtain ⟨⟨⟨⟨⟨h1, h2⟩, h3⟩, h4⟩, h5⟩, h6⟩ := h
  refine ⟨h1, h2, fun y hy => h3 y hy, h4, fun y hy e => ?_, h6⟩
  rcases h5 y hy with z | z
  · exact absurd e z
  · exact I.ok.has y.1 (isFree_kind xb z)
theorem caps_ok (xb : XB C N sc lv X) {i : Nat} {y : Str} {v : V} (h1 : N'[i]? = some y) (h2 : (capD (capsC N sc scope N') (σ : List (Option V)))[i]? = some (some v)) :
    scope.names.lookup y = some .free ∧ ∃ k : Nat, X.N[k]? = some y ∧ (σ : List (Option V))[k]? = some (some v) ∧ (X.env.scope.names.lookup y = some .cell ∨ X.env.scope.names.lookup y = some .free) := by
  obtain ⟨k, h3, h4⟩ := capD_get h2
  unfold capsC at h3
  rw [List.getElem?_map, h1] at h3
  simp only [Option.map_some, Option.some.injEq] at h3
  split at h3
  · rename_i hf
    split at h3
    · rename_i hc
      refine ⟨hf, k, by rw [xb.hN]; exact ixOf_get h3, h4, isFree_kind xb (by unfold isFree; rw [hc])⟩
    · rename_i hc
      refine ⟨hf, k, by rw [xb.hN]; exact ixOf_get h3, h4, isFree_kind xb (by unfold isFree; rw [hc])⟩
    · cases h3
  · cases h3
/-- the context of a generator's frame is one that an evaluator serves -/
theorem gen_xb (xb : XB C N sc lv X) {l : Nat} {A : Around} {s : Shared} {H : Hp} {cenv : Env} {fp : List Addr} {pn : List (Addr × Obj)} (hr : Room l A) (hsc : cenv.scope = scope) (S : GnScope N' X.env scope) : XB C N' scope l (genX X A N' s H cenv fp pn) where
  hN := rfl
  nd := S.nd
  calm := rfl
  sr := by
    show ScRel scope cenv.scope
    rw [hsc]
    exact fun x k h => ⟨fun _ => h, fun e => by subst e; exact .inl h⟩
  fnok := fun x h => absurd rfl (S.cell _ (PySem.mem_of_lookup h))
  xe := rfl
  room := hr
  mgc := xb.mgc
  mgb := xb.mgb
/-- the same program, world, written part, names, base -/
structure SameG (X Y : Cx) : Prop where
  prog : Y.prog = X.prog
  w : Y.w = X.w
  K : Y.K = X.K
  mg : Y.mg = X.mg
  base : Y.base = X.base

/-- the parts of a generator expression -/
structure GnOk (T : List Addr) (C : Cfg) (X : Cx) (N' : List Str) (scope : Scope) (l : Nat) (tg elt : Expr) (ifs : List Expr) (g : GV) (tt : BV) (fe : EV) : Prop where
  tg : ∀ Y : Cx, XB C N' scope l Y → SameG X Y → SG T Y tg g
  ifs : ∀ Y : Cx, XB C N' scope l Y → SameG X Y → STs T Y ifs tt
  elt : ∀ Y : Cx, XB C N' scope l Y → SameG X Y → SE T Y elt fe
/-- made, and ready: what a consumer gets that pulls it in the around A.in1 (A: of its loop's code), with its pins cp -/
def GRdy (X : Cx) (T : List Addr) (l : Nat) (pins : List (Addr × Obj)) (σ : L2.St) (φ : List Addr) (H : Hp) (G : Gn) (σ0 : Slots) (S1 : Store) (a : Addr) (s5 : Shared) : Prop :=
  s5.heap.NoLimit ∧ (∃ g, s5.heap.IsGen a g) ∧ AllBare s5.gens ∧ ∀ (A : Around) (Z : ZC) (cp : List (Addr × Obj)) (s6 : Shared) (n : Nat), (∀ env, Room l (A.in1.deeper env)) → A.frames = some X.stack → A.handled = none → ZMono Z → (∀ φ' H', Z [] φ' H' cp) →
    (∀ b o, s5.heap.get? b = some o → s6.heap.get? b = some o) → s6.os = s5.os → s6.gens = s5.gens → (∀ p ∈ cp, s5.heap.objs.size ≤ p.1 ∧ s6.heap.get? p.1 = some p.2 ∧ ∀ v, p.2.data ≠ .cell v) → 0 < n → G.pull 0 σ0 S1 ≠ none →
    ∃ (N' : List Str) (sc : Shared) (H2 : Hp) (cenv : Env) (fp : List Addr) (pn : List (Addr × Obj)) (tn : Nat → Heap → Prop) (φ1 : List Addr) (g : Nat) (it : Addr) (J : It) (tg : Expr),
      GIn (genX X (A.in1.deeper cenv) N' sc H2 cenv fp pn) T Z fp tn φ1 H2 [] 0 σ0 S1 s6 ∧ CSt (genX X (A.in1.deeper cenv) N' sc H2 cenv fp pn) T Z fp tn φ1 H2 G σ0 S1 n A g n s6 ∧
      (∀ {cp σ H s}, Inv (genX X (A.in1.deeper cenv) N' sc H2 cenv fp pn) cp σ H s → s.heap.IsGen a g) ∧ Turn X.prog X.w X.K tg J fp it tn ∧
      (∀ S, s5.heap.objs.size ≤ S → Apart (genX X (A.in1.deeper cenv) N' sc H2 cenv fp pn) S ∧ ∀ p ∈ pn, p.1 ≠ S) ∧
      (∀ cp σ1 H' s', Inv (genX X (A.in1.deeper cenv) N' sc H2 cenv fp pn) cp σ1 H' s' → Inv X pins σ H' s') ∧ φ <+: φ1 ∧ Keep H H2 ∧ sc.heap.objs.size ≤ s5.heap.objs.size
theorem gen_core {c P : Addr} {elt tg iter : Expr} {ifs : List Expr} {gpos : Pos} {fi : IV} {g : GV} {tt : BV} {fe : EV} {l lf : Nat} {φ : List Addr} {σD : Slots} {S S1 : Store} {src : Src} {Q' : Value → Shared → Prop}
    (xb : XB C N sc lv X) (TB : TabB X.base X.mg c P) (hcode : X.env.code = .ref c) (hP : P ∈ T) (ok : gnC sc scope N' = true) (hi : SI T X tg iter fi) (hs : ∀ v, genFold iter X.env v = pure v) (go : GnOk T C X N' scope l tg elt ifs g tt fe)
    (I : Inv X pins σ H s) (R : Rel (ctOf X T) φ S H) (L : SlotRel X.K φ H σD σ) (e : fi σD S = some (src, S1))
    (hQ : ∀ a s5, GRdy X T l pins σ φ H ⟨src, g, tt, fe, lf⟩ (capD (capsC N sc scope N') σD) S1 a s5 → Q' (.ref a) s5) :
    wpAny (model X.prog X.w) X.A (eval (.GeneratorExp elt [⟨tg, iter, ifs, 0⟩] scope gpos) X.env) Q' X.xe s := by
  have SS := gnC_ok xb I ok
  refine gen_make (R := fun J H1 => ∃ φ1, φ <+: φ1 ∧ Keep H H1 ∧ Rel (ctOf X T) φ1 S1 H1 ∧ TabG H1 P ∧ MatchIt (ctOf X T) J src φ1 H1) xb.room TB hcode SS hi hs I
    ⟨φ, σD, S, src, S1, R, L, e, fun J φ' H' h1 k1 R1 M => ⟨R1.tab P hP, φ', h1, k1, R1, R1.tab P hP, M⟩⟩ ?_
  intro J H1 H2 it fp tn sc' s5 code a gi gobj hR hTab Ic TT st hfp os hb kp hns hga hlt hgob hgens
  obtain ⟨φ1, h1, k1, R1, hT1, M⟩ := hR
  have k12 := keep_tabbed hT1 hTab
  have R2 := R1.tabbed hT1 hTab
  obtain ⟨hgc, ⟨nm, qn, hgd⟩, hgs⟩ := hgob
  have isg : ∀ h : Heap, h.get? a = some gobj → h.IsGen a gi := fun h e => ⟨gobj, nm, qn, e, hgc, hgd, hgs⟩
  have szle : sc'.heap.objs.size ≤ s5.heap.objs.size := Nat.le_of_lt (Nat.lt_trans hlt (Heap.lt_size hga))
  refine hQ a s5 ⟨Ic.nolimit.keeps kp, ⟨gi, isg _ hga⟩, hb, ?_⟩
  intro A Z cp s6 n hroom hfr hhd hZ hZ0 k6 os6 g6 hcp hn hne
  have SG' := gnC_ok xb Ic ok
  have hrA := hroom (genEnv scope (gcells X scope) sc'.heap.objs.size code builtinsNs X.env)
  have hA1 : A.in1.handled = none := hhd
  have hfrA : A.in1.frames = some X.stack := hfr
  have gb : ∀ v, gobj.data ≠ .cell v := fun v z => by rw [hgd] at z; cases z
  have J0 : Inv (genX X (A.in1.deeper (genEnv scope (gcells X scope) sc'.heap.objs.size code builtinsNs X.env)) N' sc' H2 (genEnv scope (gcells X scope) sc'.heap.objs.size code builtinsNs X.env) fp [(a, gobj)]) [] (capD (capsC N sc scope N') σ) H2 s6 :=
    gen_inv SG' Ic hrA.hd (Around.frames_deeper hfrA) hfp (os6.trans os) (by rw [g6]; exact hb) (fun b o e => k6 b o (kp b o e)) (hns.imp fun m hm => hm.keeps k6)
      (fun p hp => by rw [List.mem_singleton.mp hp]; exact ⟨k6 _ _ hga, hlt, gb⟩) (by unfold capD capsC; simp) fun i y v e1 e2 => caps_ok xb e1 e2
  have young : ∀ b, s5.heap.objs.size ≤ b → sc'.heap.objs.size < b := fun b hb' => Nat.lt_of_lt_of_le (Nat.lt_trans hlt (Heap.lt_size hga)) hb'
  have J1 : Inv (genX X (A.in1.deeper (genEnv scope (gcells X scope) sc'.heap.objs.size code builtinsNs X.env)) N' sc' H2 (genEnv scope (gcells X scope) sc'.heap.objs.size code builtinsNs X.env) fp [(a, gobj)]) cp (capD (capsC N sc scope N') σ) H2 s6 :=
    J0.pins_of fun p hp => by
      obtain ⟨p1, p2, p3⟩ := hcp p hp
      have hy := young p.1 p1
      refine ⟨p2, Ic.hok.fresh (Nat.le_of_lt hy), Nat.ne_of_gt hy, fun z => ?_, p3⟩
      rcases List.mem_cons.mp (Ic.stkSub p.1 z) with z | z
      · have := Ic.lt
        rw [← z] at this
        exact absurd (Nat.lt_trans hy this) (Nat.lt_irrefl _)
      · obtain ⟨_, o, ho, _⟩ := Ic.ok.funs.mem z
        exact absurd (Nat.lt_trans hy (Nat.lt_of_lt_of_le (Heap.lt_size ho) Ic.sz)) (Nat.lt_irrefl _)
  have cellLt : ∀ y c, (gcells X scope).lookup y = some c → c < sc'.heap.objs.size := fun y c e => by
    obtain ⟨w, z⟩ := Ic.cell _ _ (gcell_mem SG' e)
    exact z.lt
  have hf1 : ∀ b ∈ fp, FpOk (genX X (A.in1.deeper (genEnv scope (gcells X scope) sc'.heap.objs.size code builtinsNs X.env)) N' sc' H2 (genEnv scope (gcells X scope) sc'.heap.objs.size code builtinsNs X.env) fp [(a, gobj)]) cp H2 b := fun b hb' => by
    obtain ⟨⟨f1, f2, f3, f4, f5, f6⟩, f7⟩ := hfp b hb'
    refine ⟨f1, Nat.ne_of_lt f7, fun z => ?_, .inl hb', fun y c e => f5 y c (gcell_mem SG' e), fun p hp z => ?_⟩
    · rcases List.mem_cons.mp (Ic.stkSub b z) with z | z
      · exact f2 z
      · exact f3 z
    · rcases List.mem_append.mp hp with hp | hp
      · rw [List.mem_singleton.mp hp] at z
        have z : a = b := z
        rw [z] at hlt
        exact absurd (Nat.lt_trans f7 hlt) (Nat.lt_irrefl _)
      · have hy := young p.1 (hcp p hp).1
        rw [z] at hy
        exact absurd (Nat.lt_trans f7 hy) (Nat.lt_irrefl _)
  have st6 : tn 0 s6.heap := TT.keep _ _ _ st fun b hb' o e => k6 b o e
  have hin : GIn (genX X (A.in1.deeper (genEnv scope (gcells X scope) sc'.heap.objs.size code builtinsNs X.env)) N' sc' H2 (genEnv scope (gcells X scope) sc'.heap.objs.size code builtinsNs X.env) fp [(a, gobj)]) T Z fp tn φ1 H2 [] 0 (capD (capsC N sc scope N') σD) S1 s6 :=
    ⟨φ1, H2, _, cp, List.prefix_refl _, Keep.refl _, R2, cap_rel (L.mono h1 (k1.trans k12)), hZ0 _ _, J1, st6, hf1⟩
  have xg := gen_xb (X := X) (A := A.in1.deeper (genEnv scope (gcells X scope) sc'.heap.objs.size code builtinsNs X.env)) (s := sc') (H := H2) (cenv := genEnv scope (gcells X scope) sc'.heap.objs.size code builtinsNs X.env) (fp := fp) (pn := [(a, gobj)]) xb hrA rfl SG'
  rw [← g6] at hgens
  refine ⟨N', sc', H2, genEnv scope (gcells X scope) sc'.heap.objs.size code builtinsNs X.env, fp, [(a, gobj)], tn, φ1, gi, it, J, tg, hin, ⟨_, hgens, rfl, ?_⟩,
    fun {cp σ H s} K => isg _ (K.pin (a, gobj) (List.mem_append_left _ (List.mem_singleton.mpr rfl))).1, TT, fun S hS => ⟨⟨Nat.le_of_lt (young S hS), Nat.ne_of_gt (young S hS), fun y c e z => ?_⟩, fun p hp z => ?_⟩, fun cp σ1 H' s' K => gen_back Ic (fun b hb' => (hfp b hb').1) K, h1, k1.trans k12, szle⟩
  · refine seg_gstart (X := genX X (A.in1.deeper (genEnv scope (gcells X scope) sc'.heap.objs.size code builtinsNs X.env)) N' sc' H2 (genEnv scope (gcells X scope) sc'.heap.objs.size code builtinsNs X.env) fp [(a, gobj)]) hZ rfl rfl rfl SG'.co TT ?_ (go.tg _ xg ⟨rfl, rfl, rfl, rfl, rfl⟩) (go.ifs _ xg ⟨rfl, rfl, rfl, rfl, rfl⟩) (go.elt _ xg ⟨rfl, rfl, rfl, rfl, rfl⟩) hn hne (hin.gens (allBare_setGen (by rw [g6]; exact hb) rfl))
    intro i φ2 S2 H3 a1 b1 c1
    exact M i φ2 S2 H3 a1 (k12.trans b1) c1
  · have := cellLt y c e
    rw [z] at this
    exact absurd (Nat.lt_trans (young S hS) this) (Nat.lt_irrefl _)
  · rw [List.mem_singleton.mp hp] at z
    have z : a = S := z
    have := Heap.lt_size hga
    rw [z] at this
    exact absurd (Nat.lt_of_lt_of_le this hS) (Nat.lt_irrefl _)
end
end RF

end

/-! ## SJ -/
section
set_option maxRecDepth 100000
/-! any, all, sum, tuple of a generator expression. -/
namespace RF
open PySem PySem.Spec PyProof.Rows L2 GenW GxR
open AutoSeq1 (wpAny_loadPart')

/-! ### what the built-ins do with a generator -/
section
variable {P : Program} {w : World} {A : Around} {E : Value → Shared → Prop} {s : Shared} {a : Addr} {g : Nat} {Q : Value → Shared → Prop}
theorem call_anyG (hg : s.heap.IsGen a g) (h : codeAny (model P w) A (.builtin "any.loop" ⟨[.ref a], []⟩) (fun r s' => r = .ok (.ret (.bool true)) ∧ Q (.bool true) s' ∨ r = .ok (.ret (.bool false)) ∧ Q (.bool false) s') s) : wpAny (model P w) A (call (.builtin "any") [.ref a]) Q E s := by
  refine call_function_tree F.kind_any F.plain_any F.entry_any (F.args_any1 _) ?_
  unfold Builtin.«any»
  refine wpAny_bind (m := oneArg "any" _) (wpAny_pure ?_)
  refine wpAny_bind (wpAny_pyIter_gen hg ?_)
  refine wpAny_pure ⟨plainId_quiet F.plain_any_loop _, codeAny_mono h fun r s' q => ?_⟩
  rcases q with ⟨rfl, q⟩ | ⟨rfl, q⟩ <;> exact q
theorem call_allG (hg : s.heap.IsGen a g) (h : codeAny (model P w) A (.builtin "all.loop" ⟨[.ref a], []⟩) (fun r s' => r = .ok (.ret (.bool true)) ∧ Q (.bool true) s' ∨ r = .ok (.ret (.bool false)) ∧ Q (.bool false) s') s) : wpAny (model P w) A (call (.builtin "all") [.ref a]) Q E s := by
  refine call_function_tree F.kind_all F.plain_all F.entry_all (F.args_all1 _) ?_
  unfold Builtin.«all»
  refine wpAny_bind (m := oneArg "all" _) (wpAny_pure ?_)
  refine wpAny_bind (wpAny_pyIter_gen hg ?_)
  refine wpAny_pure ⟨plainId_quiet F.plain_all_loop _, codeAny_mono h fun r s' q => ?_⟩
  rcases q with ⟨rfl, q⟩ | ⟨rfl, q⟩ <;> exact q
theorem call_sumG (hg : s.heap.IsGen a g) (h : ∀ t c tk, codeAny (model P w) A (.builtin "sum.loop" ⟨[.ref a, .ref s.heap.objs.size, rawInt 0, rawInt 0], []⟩) (fun r s' => ∃ z t', r = .ok (.ret (.int z t')) ∧ Q (.int z t') s') { s with heap := s.heap.push (lstObj #[.int 0 t] c), toks := tk }) :
    wpAny (model P w) A (call (.builtin "sum") [.ref a]) Q E s := by
  refine call_function_tree F.kind_sum F.plain_sum F.entry_sum (F.args_sum1 _) ?_
  unfold Builtin.«sum»
  simp only [List.length_cons, List.length_nil]
  rw [if_neg (by decide)]
  refine wpAny_bind (wpAny_of_eq (show Builtin.Builtins.bindParams "sum" ["start"] 0 { } = pure [none] from rfl) ?_)
  refine wpAny_bind (wpAny_pyIter_gen hg ?_)
  refine wpAny_bind (wpAny_mkInt ?_)
  refine wpAny_bind (wpAny_pure ?_)
  simp only [List.forIn_cons, List.forIn_nil]
  refine wpAny_bind (wpAny_bind (wpAny_bind (wpAny_isInstance (T := "int") (b := false) (typeIs_int _ _ _) PySem.sub_int_str ?_)))
  simp only [Bool.false_eq_true, if_false]
  refine wpAny_pure (wpAny_bind (wpAny_bind (wpAny_isInstance (T := "int") (b := false) (typeIs_int _ _ _) sub_int_bytes ?_)))
  simp only [Bool.false_eq_true, if_false]
  refine wpAny_pure (wpAny_bind (wpAny_bind (wpAny_isInstance (T := "int") (b := false) (typeIs_int _ _ _) sub_int_bytearray ?_)))
  simp only [Bool.false_eq_true, if_false]
  refine wpAny_pure (wpAny_pure ?_)
  refine wpAny_bind (wpAny_newObj_type ?_)
  refine wpAny_pure ⟨plainId_quiet F.plain_sum_loop _, codeAny_mono (h _ _ _) fun r s' q => ?_⟩
  obtain ⟨z, t', rfl, q⟩ := q
  exact q
theorem collectG (hg : s.heap.IsGen a g) {R : Result → Shared → Prop}
    (h : ∀ h6 c, (∀ b o, s.heap.get? b = some o → h6.get? b = some o) → h6.get? s.heap.objs.size = some (lstObj #[] c) →
      codeAny (model P w) A (.builtin "list.extend.loop" ⟨[.ref s.heap.objs.size, .ref a, .ref s.heap.objs.size], []⟩) R { s with heap := h6 }) :
    codeAny (model P w) A (.builtin "proto.collect" ⟨[.ref a], []⟩) R s := by
  have hSI : s.heap.objs.size ≠ a := fun e => by
    obtain ⟨o, _, _, ho, _⟩ := hg
    have := Heap.lt_size ho
    rw [← e] at this
    exact absurd this (Nat.lt_irrefl _)
  refine codeAny_builtin F.entry_proto_collect ?_
  rw [Around.under_plainId F.plain_proto_collect _]
  show wpAny _ A.in1 (newList [] >>= fun l => again (.builtin "list.__iadd__" ⟨[l, .ref a], []⟩)) _ _ s
  refine wpAny_bind (wpAny_newObj_type ?_)
  refine wpAny_pure ⟨plainId_quiet F.plain_list_iadd _, codeAny_builtin F.entry_list_iadd ?_⟩
  rw [Around.under_plainId F.plain_list_iadd _]
  have gk : ∀ {h' : Heap}, (∀ b o, s.heap.get? b = some o → h'.get? b = some o) → h'.IsGen a g := fun {h'} q => hg.keeps q
  have k1 : ∀ b o, s.heap.get? b = some o → (s.heap.push { cls := .type "list", data := .seq ([] : List Value).toArray }).get? b = some o := fun b o e => Heap.get?_push_of_some _ e
  show wpAny _ A.in1 (Builtin.List.listExtendWith (.ref s.heap.objs.size) (.ref a) (.ref s.heap.objs.size)) _ _ _
  unfold Builtin.List.listExtendWith
  refine wpAny_bind (wpAny_typeOf (Heap.IsGen.typeIs (s := { s with heap := _ }) (gk k1)) ?_)
  have h1 : Builtin.List.listSameRef (.ref s.heap.objs.size) (.ref a) = false := by simp [Builtin.List.listSameRef, hSI]
  have h2 : (Value.type "generator" == Value.type "list") = false := by decide
  have h3 : (Value.type "generator" == Value.type "tuple") = false := by decide
  simp only [h1, h2, h3, Bool.or_false, Bool.false_eq_true, if_false]
  refine wpAny_bind (wpAny_pyIter_gen (s := { s with heap := _ }) (gk k1) ?_)
  refine wpAny_bind (wpAny_holding ?_)
  unfold Builtin.List.listLengthHint
  refine wpAny_bind (wpAny_specialOf (Heap.IsGen.typeIs (s := { s with heap := _ }) (gk k1)) F.gen_no_len ?_)
  show wpAny _ A.in1 (specialOf (Value.ref a) (Str.ofString "__length_hint__") >>= _) _ _ _
  refine wpAny_bind (wpAny_specialOf (Heap.IsGen.typeIs (s := { s with heap := _ }) (gk k1)) F.gen_no_hint ?_)
  refine wpAny_pure ?_
  show wpAny _ A.in1 (rule "list.extend.makes-room" >>= fun _ => Builtin.List.listTouch (.ref s.heap.objs.size) >>= fun _ =>
    again (.builtin "list.extend.loop" ⟨[.ref s.heap.objs.size, .ref a, .ref s.heap.objs.size], []⟩)) _ _ _
  refine wpAny_bind (wpAny_rule ?_)
  have hS1 : (s.heap.push { cls := .type "list", data := .seq ([] : List Value).toArray }).get? s.heap.objs.size = some { cls := .type "list", data := .seq ([] : List Value).toArray } := Heap.get?_push_size _ rfl
  refine wpAny_bind ?_
  show wpAny _ A.in1 (updateSeq s.heap.objs.size (·.push .none) >>= fun _ => updateSeq s.heap.objs.size (·.pop)) _ _ _
  refine wpAny_bind (wpAny_updateSeq hS1 rfl ?_)
  have hS2 := Heap.get?_update_self (Obj.mapSeq (·.push Value.none)) hS1 rfl
  refine wpAny_updateSeq hS2 rfl ?_
  have hS3 := Heap.get?_update_self (Obj.mapSeq (·.pop)) hS2 rfl
  have up : ∀ (h : Heap) (f : Obj → Obj), (∀ b o, s.heap.get? b = some o → h.get? b = some o) → ∀ b o, s.heap.get? b = some o → (h.update s.heap.objs.size f).get? b = some o := fun h f q b o e =>
    (Heap.get?_update_other _ _ (Ne.symm (Nat.ne_of_lt (Heap.lt_size e)))).trans (q b o e)
  exact wpAny_pure ⟨plainId_quiet F.plain_extend_loop _, h _ _ (up _ _ (up _ _ k1)) hS3⟩
theorem code_tuple_newG {Q₁ : Value → Shared → Prop} (hg : s.heap.IsGen a g)
    (h : ∀ h6 c, (∀ b o, s.heap.get? b = some o → h6.get? b = some o) → h6.get? s.heap.objs.size = some (lstObj #[] c) →
      codeAny (model P w) A.in1 (.builtin "list.extend.loop" ⟨[.ref s.heap.objs.size, .ref a, .ref s.heap.objs.size], []⟩) (fun r s' => r = .ok (.ret (.ref s.heap.objs.size)) ∧ ∃ acc c', s'.heap.get? s.heap.objs.size = some (lstObj acc c') ∧
        acc.size ≤ sizeLine ∧ Q₁ (.ref s'.heap.objs.size) { s' with heap := s'.heap.push { cls := .type "tuple", data := .seq acc } }) { s with heap := h6 }) :
    codeAny (model P w) A (.call (.builtin "tuple.__new__") ⟨[.type "tuple", .ref a], []⟩) (wants Q₁ E) s := by
  refine codeAny_of_tree ?_
  show wpAny _ A.in1 (do checkBuiltinCall "tuple.__new__" ⟨[.type "tuple", .ref a], []⟩; again (.builtin "tuple.__new__" ⟨[.type "tuple", .ref a], []⟩)) _ _ s
  refine wpAny_bind (wpAny_of_eq (F.newCall_tuple_1 _) (wpAny_pure ⟨plainId_quiet F.plain_tuple_new _, codeAny_builtin F.entry_tuple_new ?_⟩))
  rw [Around.under_plainId F.plain_tuple_new _]
  have hsub := sub_tuple_self
  have hinit := init_tuple_lookup
  have hmh := madeHere_tuple
  have hTI : s.TypeIs (.ref a) "generator" := Heap.IsGen.typeIs (s := s) hg
  wp_walk using wpAny_typeOf hTI
  refine collectG hg fun h6 c k6 e6 => codeAny_mono (h h6 c k6 e6) fun r s' q => ?_
  obtain ⟨rfl, acc, c', e, hz, q⟩ := q
  show wpAny _ A.in1 (load s.heap.objs.size >>= _) _ _ s'
  refine wpAny_bind (wpAny_load e (wpAny_pure ?_))
  show wpAny _ _ (Builtin.Tuple.tupleExact acc.toList.toArray >>= fun v => ret v) _ _ _
  unfold Builtin.Tuple.tupleExact
  have e' : acc.toList.toArray = acc := by simp
  rw [e']
  refine wpAny_bind (wpAny_newObj_type ?_ hz)
  exact wpAny_pure q
theorem call_tupleG {Q : Value → Shared → Prop} (hg : s.heap.IsGen a g)
    (h : ∀ h6 c, (∀ b o, s.heap.get? b = some o → h6.get? b = some o) → h6.get? s.heap.objs.size = some (lstObj #[] c) →
      codeAny (model P w) A.in1.in1 (.builtin "list.extend.loop" ⟨[.ref s.heap.objs.size, .ref a, .ref s.heap.objs.size], []⟩) (fun r s' => r = .ok (.ret (.ref s.heap.objs.size)) ∧ ∃ acc c', s'.heap.get? s.heap.objs.size = some (lstObj acc c') ∧
        acc.size ≤ sizeLine ∧ Q (.ref s'.heap.objs.size) { s' with heap := s'.heap.push { cls := .type "tuple", data := .seq acc } }) { s with heap := h6 }) :
    wpAny (model P w) A (call (.type "tuple") [.ref a]) Q E s := by
  refine callType_codes (Q₁ := fun obj s₁ => s₁.TypeIs obj "tuple" ∧ Q obj s₁) F.called_tuple (F.typeCall_tuple_1 _) F.entry_object_init
    (code_tuple_newG hg fun h6 c k6 e6 => codeAny_mono (h h6 c k6 e6) fun r s' ⟨e, acc, c', e1, hz, q⟩ => ⟨e, acc, c', e1, hz, ⟨_, Heap.get?_push_size _ rfl, rfl⟩, q⟩) fun obj s₁ h₁ => ?_
  exact ⟨h₁.1, F.args_object_init_2 obj _, object_init_meets F.called_tuple.init.lookup F.called_tuple.made (by decide) P w A.in1 _ s₁ ⟨h₁.1, rfl, h₁.2⟩⟩
end
end RF

end

/-! ## SK -/
section
set_option maxRecDepth 100000
/-! any, all, sum, tuple of a generator expression, by data. -/
namespace RF
open PySem PySem.Spec PyProof.Rows L2 GenW GxR

theorem room_gen {l : Nat} {A : Around} (h : Room (l + 1) A) (env : Env) : Room l (A.in1.in1.deeper env) ∧ Room l (A.in1.in1.in1.in1.deeper env) := by
  have h1 := h.dp
  have h2 := h.un
  refine ⟨⟨h.hd, ?_, ?_⟩, ⟨h.hd, ?_, ?_⟩⟩
  · show A.depth + 1 + 3 * l + 5 < _
    omega
  · show A.units + 1 + 1 + 3 + 16 * l + 200 < _
    omega
  · show A.depth + 1 + 3 * l + 5 < _
    omega
  · show A.units + 1 + 1 + 1 + 1 + 3 + 16 * l + 200 < _
    omega

/-! ### pure -/
def genE (fi : IV) (caps : List (Option Nat)) (g : GV) (tt : BV) (fe : EV) (lf : Nat) (eat : Gn → Slots → Store → Option (D × Store)) : EV := fun σ S => match fi σ S with
  | some (src, S1) => eat ⟨src, g, tt, fe, lf⟩ (capD caps σ) S1
  | none => none
def eatAny (lf : Nat) : Gn → Slots → Store → Option (D × Store) := fun G σ S => match anyG G lf 0 σ S with
  | some (b, S2) => some (.bl b, S2)
  | none => none
def eatAll (lf : Nat) : Gn → Slots → Store → Option (D × Store) := fun G σ S => match allG G lf 0 σ S with
  | some (b, S2) => some (.bl b, S2)
  | none => none
def eatSum (lf : Nat) : Gn → Slots → Store → Option (D × Store) := fun G σ S => match sumG G lf 0 0 σ S with
  | some (z, S2) => some (.int z, S2)
  | none => none
def eatTup (lf : Nat) : Gn → Slots → Store → Option (D × Store) := fun G σ S => match colG G lf [] 0 σ S with
  | some (ys, S2) => some (.tup ys, S2)
  | none => none
theorem colG_len {G : Gn} : ∀ (m : Nat) (ys : List D) (i : Nat) (σ : Slots) (S : Store) (zs : List D) (S' : Store), colG G m ys i σ S = some (zs, S') → ys.length ≤ most → zs.length ≤ most
  | 0, _, _, _, _, _, _, h, _ => by cases h
  | m + 1, ys, i, σ, S, zs, S', h, hl => by
    unfold colG at h
    split at h
    · cases h
    · cases h
      exact hl
    · split at h
      · exact colG_len m _ _ _ _ _ _ h (by rw [List.length_append, List.length_singleton]; omega)
      · cases h
section
variable {C : Cfg} {N N' : List Str} {sc scope : Scope} {l lf : Nat} {X : Cx} {T : List Addr} {c P : Addr} {elt tg iter : Expr} {ifs : List Expr} {p pos gpos : Pos} {fi : IV} {g : GV} {tt : BV} {fe : EV}
theorem se_anyG (xb : XB C N sc (l + 1) X) (TB : TabB X.base X.mg c P) (hcode : X.env.code = .ref c) (hP : P ∈ T) (hgl : Gl X "any") (hm : X.mg "any" = none) (ok : gnC sc scope N' = true) (hi : SI T X tg iter fi) (hs : ∀ v, genFold iter X.env v = pure v) (go : GnOk T C X N' scope l tg elt ifs g tt fe) :
    SE T X (.Call (.Name "any" p) [.GeneratorExp elt [⟨tg, iter, ifs, 0⟩] scope gpos] [] pos) (genE fi (capsC N sc scope N') g tt fe lf (eatAny lf)) := by
  refine ⟨fun pins s σ H Q I ⟨φ, σD, S, d, S', R, L, e, q⟩ => ?_⟩
  unfold genE at e
  split at e
  · rename_i src S1 e1
    unfold eatAny at e
    split at e
    · rename_i b S2 e2
      cases e
      refine wpAny_Call_Name_kw (ld_blt I hgl hm boot_any ?_)
      have he : starEach [.GeneratorExp elt [⟨tg, iter, ifs, 0⟩] scope gpos] X.env = (false, eval (.GeneratorExp elt [⟨tg, iter, ifs, 0⟩] scope gpos) X.env) :: starEach [] X.env := rfl
      refine PyProof.Rows.callWith_builtin1 ?_ he rfl
      rw [he]
      show wpAny _ _ (spliced ((false, eval (.GeneratorExp elt [⟨tg, iter, ifs, 0⟩] scope gpos) X.env) :: backTo pos (starEach [] X.env))) _ _ s
      refine Calls.spliced_cons (gen_core (lf := lf) xb TB hcode hP ok hi hs go I R L e1 fun a s5 hG => ?_)
      refine Calls.spliced_nil ?_
      obtain ⟨hlim, ⟨gn, hg⟩, hb, hrun⟩ := hG
      obtain ⟨h0, hne⟩ := anyG_pull e2
      obtain ⟨N2, sc', H2, cenv, fp, pn, tn, φ1, g1, it, J, tg1, hin, hc, hpn, TT, _, back, h1, k1, _⟩ := hrun X.A.in1 Z0 [] s5 lf (fun env => (room_gen xb.room env).1) I.ok.frames (I.ok.hd xb.calm) z0_mono (fun _ _ => rfl) (fun _ _ e => e) rfl rfl (fun p hp => by cases hp) h0 hne
      refine call_anyG hg (any_loop (A := X.A) hpn (I.ok.hd xb.calm) (by have := xb.room.dp; omega) lf 0 lf [] 0 _ S1 s5 b S' e2 (Nat.zero_add _) (Nat.le_refl _) rfl hin hc fun s' ⟨φ', H', σ', cp, h2, k2, R2, J2⟩ => ?_)
      have fin : Q (.bl b) H' := q _ _ ⟨φ', h1.trans h2, k1.trans k2, R2, .bl b⟩
      have Ib := back _ _ _ _ J2
      cases b with
      | true => exact .inl ⟨rfl, .bl true, H', Ib, rfl, fin⟩
      | false => exact .inr ⟨rfl, .bl false, H', Ib, rfl, fin⟩
    · cases e
  · cases e
theorem se_allG (xb : XB C N sc (l + 1) X) (TB : TabB X.base X.mg c P) (hcode : X.env.code = .ref c) (hP : P ∈ T) (hgl : Gl X "all") (hm : X.mg "all" = none) (ok : gnC sc scope N' = true) (hi : SI T X tg iter fi) (hs : ∀ v, genFold iter X.env v = pure v) (hbt : bootBuiltins "all" = some (.builtin "all")) (go : GnOk T C X N' scope l tg elt ifs g tt fe) :
    SE T X (.Call (.Name "all" p) [.GeneratorExp elt [⟨tg, iter, ifs, 0⟩] scope gpos] [] pos) (genE fi (capsC N sc scope N') g tt fe lf (eatAll lf)) := by
  refine ⟨fun pins s σ H Q I ⟨φ, σD, S, d, S', R, L, e, q⟩ => ?_⟩
  unfold genE at e
  split at e
  · rename_i src S1 e1
    unfold eatAll at e
    split at e
    · rename_i b S2 e2
      cases e
      refine wpAny_Call_Name_kw (ld_blt I hgl hm hbt ?_)
      have he : starEach [.GeneratorExp elt [⟨tg, iter, ifs, 0⟩] scope gpos] X.env = (false, eval (.GeneratorExp elt [⟨tg, iter, ifs, 0⟩] scope gpos) X.env) :: starEach [] X.env := rfl
      refine PyProof.Rows.callWith_builtin1 ?_ he rfl
      rw [he]
      show wpAny _ _ (spliced ((false, eval (.GeneratorExp elt [⟨tg, iter, ifs, 0⟩] scope gpos) X.env) :: backTo pos (starEach [] X.env))) _ _ s
      refine Calls.spliced_cons (gen_core (lf := lf) xb TB hcode hP ok hi hs go I R L e1 fun a s5 hG => ?_)
      refine Calls.spliced_nil ?_
      obtain ⟨hlim, ⟨gn, hg⟩, hb, hrun⟩ := hG
      obtain ⟨h0, hne⟩ := allG_pull e2
      obtain ⟨N2, sc', H2, cenv, fp, pn, tn, φ1, g1, it, J, tg1, hin, hc, hpn, TT, _, back, h1, k1, _⟩ := hrun X.A.in1 Z0 [] s5 lf (fun env => (room_gen xb.room env).1) I.ok.frames (I.ok.hd xb.calm) z0_mono (fun _ _ => rfl) (fun _ _ e => e) rfl rfl (fun p hp => by cases hp) h0 hne
      refine call_allG hg (all_loop (A := X.A) hpn (I.ok.hd xb.calm) (by have := xb.room.dp; omega) lf 0 lf [] 0 _ S1 s5 b S' e2 (Nat.zero_add _) (Nat.le_refl _) rfl hin hc fun s' ⟨φ', H', σ', cp, h2, k2, R2, J2⟩ => ?_)
      have fin : Q (.bl b) H' := q _ _ ⟨φ', h1.trans h2, k1.trans k2, R2, .bl b⟩
      have Ib := back _ _ _ _ J2
      cases b with
      | true => exact .inl ⟨rfl, .bl true, H', Ib, rfl, fin⟩
      | false => exact .inr ⟨rfl, .bl false, H', Ib, rfl, fin⟩
    · cases e
  · cases e
theorem se_sumG (xb : XB C N sc (l + 1) X) (TB : TabB X.base X.mg c P) (hcode : X.env.code = .ref c) (hP : P ∈ T) (hgl : Gl X "sum") (hm : X.mg "sum" = none) (ok : gnC sc scope N' = true) (hi : SI T X tg iter fi) (hs : ∀ v, genFold iter X.env v = pure v) (hbt : bootBuiltins "sum" = some (.builtin "sum")) (go : GnOk T C X N' scope l tg elt ifs g tt fe) :
    SE T X (.Call (.Name "sum" p) [.GeneratorExp elt [⟨tg, iter, ifs, 0⟩] scope gpos] [] pos) (genE fi (capsC N sc scope N') g tt fe lf (eatSum lf)) := by
  refine ⟨fun pins s σ H Q I ⟨φ, σD, S, d, S', R, L, e, q⟩ => ?_⟩
  unfold genE at e
  split at e
  · rename_i src S1 e1
    unfold eatSum at e
    split at e
    · rename_i z S2 e2
      cases e
      refine wpAny_Call_Name_kw (ld_blt I hgl hm hbt ?_)
      have he : starEach [.GeneratorExp elt [⟨tg, iter, ifs, 0⟩] scope gpos] X.env = (false, eval (.GeneratorExp elt [⟨tg, iter, ifs, 0⟩] scope gpos) X.env) :: starEach [] X.env := rfl
      refine PyProof.Rows.callWith_builtin1 ?_ he rfl
      rw [he]
      show wpAny _ _ (spliced ((false, eval (.GeneratorExp elt [⟨tg, iter, ifs, 0⟩] scope gpos) X.env) :: backTo pos (starEach [] X.env))) _ _ s
      refine Calls.spliced_cons (gen_core (lf := lf) xb TB hcode hP ok hi hs go I R L e1 fun a s5 hG => ?_)
      refine Calls.spliced_nil ?_
      obtain ⟨hlim, ⟨gn, hg⟩, hb, hrun⟩ := hG
      obtain ⟨h0, hne⟩ := sumG_pull e2
      refine call_sumG hg fun t c' tk => ?_
      have k6 : ∀ b o, s5.heap.get? b = some o → (s5.heap.push (lstObj #[.int 0 t] c')).get? b = some o := fun b o e => Heap.get?_push_of_some _ e
      have eS : (s5.heap.push (lstObj #[.int 0 t] c')).get? s5.heap.objs.size = some (lstObj #[.int 0 t] c') := Heap.get?_push_size _ rfl
      obtain ⟨N2, sc', H2, cenv, fp, pn, tn, φ1, g1, it, J, tg1, hin, hc, hpn, TT, own, back, h1, k1, _⟩ := hrun X.A.in1 (ZS s5.heap.objs.size) [(s5.heap.objs.size, lstObj #[.int 0 t] c')] { s5 with heap := s5.heap.push (lstObj #[.int 0 t] c'), toks := tk } lf
        (fun env => (room_gen xb.room env).1) I.ok.frames (I.ok.hd xb.calm) (zs_mono _) (fun _ _ => ⟨0, t, c', rfl, rfl⟩) k6 rfl rfl (fun p hp => by
          rw [List.mem_singleton.mp hp]
          exact ⟨Nat.le_refl _, eS, fun v z => by cases z⟩) h0 hne
      obtain ⟨hA, hSp⟩ := own _ (Nat.le_refl _)
      refine sum_loop (A := X.A) hA hSp TT hpn (I.ok.hd xb.calm) (by have := xb.room.dp; omega) lf 0 lf [] 0 0 _ S1 _ z S' e2 rfl (Nat.zero_add _) (Nat.le_refl _) rfl hin hc fun s' t' ⟨φ', H', σ', cp, h2, k2, R2, J2⟩ => ?_
      exact ⟨z, t', rfl, .int z, H', back _ _ _ _ J2, ⟨t', rfl⟩, q _ _ ⟨φ', h1.trans h2, k1.trans k2, R2, .int z⟩⟩
    · cases e
  · cases e
theorem se_tupG (xb : XB C N sc (l + 1) X) (TB : TabB X.base X.mg c P) (hcode : X.env.code = .ref c) (hP : P ∈ T) (hgl : Gl X "tuple") (hm : X.mg "tuple" = none) (ok : gnC sc scope N' = true) (hi : SI T X tg iter fi) (hs : ∀ v, genFold iter X.env v = pure v) (hbt : bootBuiltins "tuple" = some (.type "tuple")) (go : GnOk T C X N' scope l tg elt ifs g tt fe) :
    SE T X (.Call (.Name "tuple" p) [.GeneratorExp elt [⟨tg, iter, ifs, 0⟩] scope gpos] [] pos) (genE fi (capsC N sc scope N') g tt fe lf (eatTup lf)) := by
  refine ⟨fun pins s σ H Q I ⟨φ, σD, S, d, S', R, L, e, q⟩ => ?_⟩
  unfold genE at e
  split at e
  · rename_i src S1 e1
    unfold eatTup at e
    split at e
    · rename_i ys S2 e2
      cases e
      refine wpAny_Call_Name_kw (ld_blt I hgl hm hbt ?_)
      have he : starEach [.GeneratorExp elt [⟨tg, iter, ifs, 0⟩] scope gpos] X.env = (false, eval (.GeneratorExp elt [⟨tg, iter, ifs, 0⟩] scope gpos) X.env) :: starEach [] X.env := rfl
      refine PyProof.Rows.callWith_type1 ?_ he rfl
      rw [he]
      show wpAny _ _ (spliced ((false, eval (.GeneratorExp elt [⟨tg, iter, ifs, 0⟩] scope gpos) X.env) :: backTo pos (starEach [] X.env))) _ _ s
      refine Calls.spliced_cons (gen_core (lf := lf) xb TB hcode hP ok hi hs go I R L e1 fun a s5 hG => ?_)
      refine Calls.spliced_nil ?_
      obtain ⟨hlim, ⟨gn, hg⟩, hb, hrun⟩ := hG
      obtain ⟨h0, hne⟩ := colG_pull e2
      refine call_tupleG hg fun h6 c' k6 eS => ?_
      obtain ⟨N2, sc', H2, cenv, fp, pn, tn, φ1, g1, it, J, tg1, hin, hc, hpn, TT, own, back, h1, k1, _⟩ := hrun X.A.in1.in1.in1 (ZL X s5.heap.objs.size) [(s5.heap.objs.size, lstObj #[] c')] { s5 with heap := h6 } lf
        (fun env => (room_gen xb.room env).2) I.ok.frames (I.ok.hd xb.calm) (zl_mono _) (fun _ _ => ⟨#[], c', [], rfl, .nil, .nil⟩) k6 rfl rfl (fun p hp => by
          rw [List.mem_singleton.mp hp]
          exact ⟨Nat.le_refl _, eS, fun v z => by cases z⟩) h0 hne
      obtain ⟨hA, hSp⟩ := own _ (Nat.le_refl _)
      refine ext_loop (A := X.A.in1.in1) hA hSp TT hpn (I.ok.hd xb.calm) (by have := xb.room.dp; show X.A.depth < _; omega) lf 0 lf [] 0 _ S1 _ ys S' e2 (Nat.zero_add _) (Nat.le_refl _) rfl hin hc fun s' ⟨φ', H', σ', acc, c2, xs, h2, k2, R2, J2, rv, rs⟩ => ?_
      have Ib := back _ _ _ _ J2
      have eS' := (J2.pin (s5.heap.objs.size, lstObj acc c2) (List.mem_append_right _ List.mem_cons_self)).1
      have hz : acc.size ≤ sizeLine := by
        have e1 := rv.length
        have e2' := rs.length
        have e3 : acc.toList.length = acc.size := by simp
        have e4 := colG_len lf _ _ _ _ _ _ e2 (Nat.zero_le _)
        have := most_line (Nat.le_refl most)
        omega
      refine ⟨rfl, acc, c2, eS', hz, ?_⟩
      have hl : H' s'.heap.objs.size = none := Ib.hok.fresh (Nat.le_refl _)
      have hxl : xs.length ≤ sizeLine := by
        have e1 := rv.length
        have e3 : acc.toList.length = acc.size := by simp
        omega
      refine ⟨.ref s'.heap.objs.size, upd H' s'.heap.objs.size (.tup xs), Ib.laid (t' := s'.toks) (fun b u e => Heap.get?_push_of_some _ e) (Nat.le_refl _) ?_, rfl, q _ _ ?_⟩
      · exact ⟨hxl, acc.toList, rv, ⟨_, Heap.get?_push_size _ rfl, rfl, 0, by rw [show acc.toList.toArray = acc by simp]⟩⟩
      · exact ⟨φ', h1.trans h2, (k1.trans k2).trans (Keep.new hl), R2.skip hl, .tup (.inl upd_same) (rs.mono (List.prefix_refl _) (Keep.new hl))⟩
    · cases e
  · cases e
end
end RF

end

/-! ## SL -/
section
set_option maxRecDepth 100000
set_option maxHeartbeats 1000000
/-! enumerate of a list or a tuple, as a source. -/
namespace RF
open PySem PySem.Spec PyProof.Rows L2
open AutoSeq1 (wpAny_loadPart')

theorem meets_enum1 {v : Value} {o : Obj} {H : Heap → Prop} (B : Begins v o H) :
    Meets (Builtin.«enumerate.__new__» ⟨[.type "enumerate", v], []⟩) (fun _ R s => H s.heap ∧
      R (.ok (.ret (.ref (s.heap.push o).objs.size))) { s with heap := (s.heap.push o).push { cls := .type "enumerate", data := .fields #[.none, .bool false, .ref s.heap.objs.size, rawInt 0, .none, .none] } }) :=
  .of_wp fun prog w A R s h => by
    obtain ⟨hp, g, d, tk, os⟩ := s; obtain ⟨h1, h⟩ := h
    have hsub := sub_enumerate
    have q1 : ∀ {A' : Around} {E : Value → Shared → Prop} {Q : Value → Shared → Prop}, Q (.ref hp.objs.size) ⟨hp.push o, g, d, tk, os⟩ → wpAny (model prog w) A' (pyIter v) Q E ⟨hp, g, d, tk, os⟩ :=
      fun q => B.iter prog w _ _ ⟨hp, g, d, tk, os⟩ _ h1 q
    wp_walk using q1
    refine wpAny_stack_any fun st => wpAny_pure ?_
    split
    · rename_i c _ _ _ _ _
      cases (c == Value.type "enumerate")
      · wp_walk using q1
        exact ⟨_, rfl, h⟩
      · wp_walk using q1
        exact ⟨_, rfl, h⟩
    · wp_walk using q1
      exact ⟨_, rfl, h⟩
theorem call_enum1 {prog : Program} {w : World} {A : Around} {E : Value → Shared → Prop} {s : Shared} {v : Value} {o : Obj} {H : Heap → Prop} {Q : Value → Shared → Prop} (B : Begins v o H) (h1 : H s.heap)
    (h : ∀ h', IsEnum h' (s.heap.objs.size + 1) s.heap.objs.size 0 .none → h'.get? s.heap.objs.size = some o → h'.objs.size = s.heap.objs.size + 2 →
      (∀ b o, s.heap.get? b = some o → h'.get? b = some o) → Q (.ref (s.heap.objs.size + 1)) { s with heap := h' }) :
    wpAny (model prog w) A (call (.type "enumerate") [v]) Q E s := by
  refine callType_new F.called_enumerate (by decide) (F.typeCall_enumerate_1 _) (F.newCall_enumerate_1 _) (fun obj => F.args_object_init_2 obj _) F.entry_enumerate_new (meets_enum1 B) ⟨h1, ?_⟩
  have hz : (s.heap.push o).objs.size = s.heap.objs.size + 1 := Heap.size_push ..
  show _ ∧ _
  rw [hz]
  have he : IsEnum ((s.heap.push o).push { cls := .type "enumerate", data := .fields #[.none, .bool false, .ref s.heap.objs.size, rawInt 0, .none, .none] }) (s.heap.objs.size + 1) s.heap.objs.size 0 .none := by
    have := Heap.get?_push_size (s.heap.push o) (o := { cls := .type "enumerate", data := .fields #[.none, .bool false, .ref s.heap.objs.size, rawInt 0, .none, .none] }) rfl
    rw [hz] at this; exact this
  refine ⟨⟨_, he, rfl⟩, h _ he (Heap.get?_push_of_some _ (Heap.get?_push_size _ B.free)) (by rw [Heap.size_push, hz]) fun b o x => Heap.get?_push_of_some _ (Heap.get?_push_of_some _ x)⟩
def Itet (K : PySem.W.Frag) (a : Addr) : It :=
  ⟨fun i H => ∃ (xs : List V) (x : V), SqT K H a xs ∧ xs[i]? = some x, fun i H v H' => ∃ T x, v = .ref T ∧ H T = none ∧ H' = upd H T (.tup [.int (i : Nat), x]) ∧ ∀ xs, SqT K H a xs → xs[i]? = some x, fun i H => ∃ xs : List V, SqT K H a xs ∧ xs.length ≤ i⟩
theorem turn_enumT {P : Program} {w : World} {K : PySem.W.Frag} {elts : List Expr} {kk : Nat} {tpos : Pos} (a e it : Addr) :
    Turn P w K (.Tuple elts kk tpos) (Itet K a) [e, it] e (fun i h => (∃ old, IsEnum h e it ((i : Nat) : Int) old) ∧ h.IsTupleIter it a i ∧ e ≠ it) where
  mem := by simp
  obj := fun i h st b hb => by
    obtain ⟨⟨old, he⟩, ⟨o, ho, hc, hd⟩, _⟩ := st
    have e' : b = e ∨ b = it := by simpa using hb
    rcases e' with z | z
    · rw [z]; exact ⟨_, he, fun v q => nomatch q⟩
    · rw [z]; exact ⟨o, ho, fun v q => by rw [hd] at q; cases q⟩
  keep := fun i h h' st k => let ⟨⟨old, he⟩, hi, hne⟩ := st; ⟨⟨old, k e (by simp) _ he⟩, hi.at fun o q => k it (by simp) o q, hne⟩
  item := by
    intro X hP hw hK hc i pins s σ H E I hf st hg
    subst hP hw hK
    obtain ⟨⟨old, he⟩, hit, hne⟩ := st
    obtain ⟨xs, x, hq, hx⟩ := hg
    obtain ⟨its, rv, p, hz⟩ := I.tuple hq
    have p' : s.heap.IsTuple a its.toArray := p
    obtain ⟨u, hu, ru⟩ := rv.get hx
    have hel : e < s.heap.objs.size := Heap.lt_size he
    have hil : it < s.heap.objs.size := by obtain ⟨_, q, _⟩ := hit; exact Heap.lt_size q
    have hai : a ≠ it := fun z => by
      obtain ⟨o1, q1, c1, _⟩ := id p'
      obtain ⟨o2, q2, c2, _⟩ := id hit
      rw [z, q2] at q1
      cases q1
      rw [c2] at c1
      injection c1 with c1
      exact absurd c1 (by decide)
    have hae : a ≠ e := fun z => by
      obtain ⟨o1, q1, c1, _⟩ := id p'
      rw [z] at q1
      have he' : s.heap.get? e = some _ := he
      rw [he'] at q1
      cases q1
      injection c1 with c1
      exact absurd c1 (by decide)
    have hli : i < its.toArray.size := by
      obtain ⟨h1, _⟩ := List.getElem?_eq_some_iff.mp hu
      simpa using h1
    refine wpAny_pyNext_enum_itemD (Draws.tuple (A := X.A.in1) (show X.A.in1.handled = none from I.ok.hd hc) it a hai its.toArray) he ⟨hit, p'⟩ hli hne (by simp only [List.mem_cons, List.not_mem_nil, or_false, not_or]; exact ⟨hne, fun z => hae z.symm⟩) fun x' h' tk hP ho hit' hT hsz hk => ?_
    have ex : x' = u := by
      have : its.toArray[i]? = some x' := hP
      have h2 : its[i]? = some x' := by simpa using this
      rw [hu] at h2
      exact (Option.some.inj h2).symm
    subst ex
    refine ⟨_, rfl, wpAny_letOwnedTupleGo_enum (s := { s with heap := h', toks := tk + 1 }) ho fun h'' he' sb => ?_⟩
    have hT2 : h''.get? s.heap.objs.size = some { cls := .type "tuple", data := .seq #[.int i tk, x'] } := (sb.2 _ (Nat.ne_of_gt hel)).trans hT
    have new : ObjOk X.prog X.w (upd H s.heap.objs.size (.tup [.int (i : Nat), x])) h'' s.heap.objs.size (.tup [.int (i : Nat), x]) :=
      ⟨by show 2 ≤ sizeLine; decide, [.int i tk, x'], .cons ⟨_, rfl⟩ (.cons ru .nil), ⟨_, hT2, rfl, _, rfl⟩⟩
    have I1 : Inv X pins σ (upd H s.heap.objs.size (.tup [.int (i : Nat), x])) { s with heap := h'', toks := tk + 1 } :=
      I.turnedNew (ch := [e, it]) (fun b ob hb q => (sb.2 b (fun z => hb (by simp [z]))).trans (hk b ob (fun z => hb (by simp [z])) (fun z => hb (by simp [z])) q)) hf (Nat.le_refl _) new
    refine ⟨.ref s.heap.objs.size, _, I1, rfl, ⟨_, x, rfl, I.hok.fresh (Nat.le_refl _), rfl, fun ys hy => by rw [I.tuple_inj hy hq]; exact hx⟩, ⟨⟨x', ?_⟩, hit'.1.at fun o q => (sb.2 it (Ne.symm hne)).trans q, hne⟩, fun b hb => ?_⟩
    · have e1 : ((i + 1 : Nat) : Int) = (i : Int) + 1 := by omega
      rw [e1]; exact he'
    · have hb' : b < s.heap.objs.size := by
        have e' : b = e ∨ b = it := by simpa using hb
        rcases e' with z | z
        · rw [z]; exact hel
        · rw [z]; exact hil
      rw [upd_ne (Nat.ne_of_lt hb')]
      exact (hf b hb).1
  done := by
    intro X hP hw hK hc i pins s σ H E I hf st hg
    subst hP hw hK
    obtain ⟨⟨old, he⟩, hit, hne⟩ := st
    obtain ⟨xs, hq, hx⟩ := hg
    obtain ⟨its, rv, p, hz⟩ := I.tuple hq
    have p' : s.heap.IsTuple a its.toArray := p
    obtain ⟨f0, f1, f2, f3, f4, f5⟩ := hf it (by simp)
    have hl := rv.length
    have hai : a ≠ it := fun z => by
      obtain ⟨o1, q1, c1, _⟩ := id p'
      obtain ⟨o2, q2, c2, _⟩ := id hit
      rw [z, q2] at q1
      cases q1
      rw [c2] at c1
      injection c1 with c1
      exact absurd c1 (by decide)
    have D : Draws X.prog X.w X.A.in1 it [it, a] i (fun _ _ => False) (fun j h => j = i ∧ h.IsTupleIter it a i ∧ h.IsTuple a its.toArray) :=
      { live := fun _ _ st => let ⟨o, ho, _⟩ := st.2.1; ⟨o, ho⟩
        frame := fun _ _ _ st hk => ⟨st.1, st.2.1.at fun o e => hk it (by simp) o e, st.2.2.at fun o e => hk a (by simp) o e⟩
        item := fun j s Q E hj st hQ => by
          have := st.1
          omega
        done := fun s Q E st hE => wpAny_nextOf_tuple_end (show X.A.in1.handled = none from I.ok.hd hc) st.2.1 st.2.2 (by simp; omega) hE }
    exact wpAny_pyNext_enum_endD D he ⟨rfl, hit, p'⟩ fun h' eb => ⟨rfl, I.turned (t' := s.toks) (fun b o hb q => eb b o hb q) f0 f1 f3 f4 f5⟩
  self := fun A i s Q E st h => let ⟨⟨_, he⟩, _⟩ := st; wpAny_pyIter_enum he h

/-! ### the source, by data -/
section
variable {X : Cx} {T : List Addr} {c : Ct} {elts : List Expr} {kk : Nat} {tpos p pos : Pos}
theorem pi_enum2 {e : Expr} {te : TE} (hg : Gl X "enumerate") (hm : X.mg "enumerate" = none) (he : PE X e te) (hs : starEach [e] X.env = (false, eval e X.env) :: starEach [] X.env) :
    PI X (.Tuple elts kk tpos) (.Call (.Name "enumerate" p) [e] [] pos) (fun σ H R => te σ H fun x H1 => ∃ a, x = .ref a ∧ (((∃ xs, SqL X.K H1 a xs) ∧ R (Ite X.K a) H1) ∨ ((∃ xs, SqT X.K H1 a xs) ∧ R (Itet X.K a) H1))) := by
  refine ⟨fun pins s σ H R I h => ?_⟩
  refine Call_ (ld_blt I hg hm boot_enumerate (PyProof.Rows.callWith_type1 ?_ hs rfl))
  rw [hs]
  show wpAny _ _ (spliced ((false, eval e X.env) :: backTo pos (starEach [] X.env))) _ _ s
  refine Calls.spliced_cons (thn (he.run pins s σ H _ I h) fun u s1 ⟨x, H1, I1, r1, q1⟩ => Calls.spliced_nil ?_)
  obtain ⟨a, rfl, q⟩ := q1
  cases r1
  have fpk : ∀ b ∈ [s1.heap.objs.size + 1, s1.heap.objs.size], FpOk X pins H1 b := fun b hb => by
    have e' : b = s1.heap.objs.size + 1 ∨ b = s1.heap.objs.size := by simpa using hb
    have hle : s1.heap.objs.size ≤ b := by
      rcases e' with z | z
      · rw [z]; exact Nat.le_add_right _ _
      · rw [z]; exact Nat.le_refl _
    exact I1.fpOk hle (I1.hok.fresh hle)
  rcases q with ⟨⟨xs, hq⟩, q⟩ | ⟨⟨xs, hq⟩, q⟩
  · obtain ⟨its, rv, p', hz⟩ := I1.list hq
    refine call_enumerate_list p'.isList fun h' he hit hsz hk => wpAny_pyIter_enum he ?_
    have I2 : Inv X pins σ H1 { s1 with heap := h' } := I1.kept (t' := s1.toks) hk
    exact ⟨s1.heap.objs.size + 1, [s1.heap.objs.size + 1, s1.heap.objs.size], _, _, H1, rfl, I2, turn_enum a (s1.heap.objs.size + 1) s1.heap.objs.size, ⟨⟨.none, he⟩, hit, Nat.succ_ne_self _⟩, fpk, q⟩
  · obtain ⟨its, rv, p', hz⟩ := I1.tuple hq
    refine call_enum1 (begins_tuple a its.toArray) (show s1.heap.IsTuple a its.toArray from p') fun h' he hit hsz hk => wpAny_pyIter_enum he ?_
    have I2 : Inv X pins σ H1 { s1 with heap := h' } := I1.kept (t' := s1.toks) hk
    exact ⟨s1.heap.objs.size + 1, [s1.heap.objs.size + 1, s1.heap.objs.size], _, _, H1, rfl, I2, turn_enumT a (s1.heap.objs.size + 1) s1.heap.objs.size, ⟨⟨.none, he⟩, ⟨_, hit, rfl, rfl⟩, Nat.succ_ne_self _⟩, fpk, q⟩
/-- one pair -/
theorem step_pair {φ1 : List Addr} {S : Store} {H H' : Hp} {i : Nat} {d : D} {x y : V} (R : Rel c φ1 S H) (r : Rep c.K φ1 H x d) (h : ∃ T x', y = .ref T ∧ H T = none ∧ H' = upd H T (.tup [.int (i : Nat), x']) ∧ x' = x) :
    ∃ φ2, φ1 <+: φ2 ∧ Keep H H' ∧ Rel c φ2 S H' ∧ Rep c.K φ2 H' y (.tup [.int i, d]) := by
  obtain ⟨Tn, x', rfl, hn, rfl, rfl⟩ := h
  have k := Keep.new (o := .tup [.int (i : Nat), x']) hn
  exact ⟨φ1, List.prefix_refl _, k, R.skip hn, .tup (.inl upd_same) (.cons (.int _) (.cons (r.mono (List.prefix_refl _) k) .nil))⟩
theorem step_enL {φ1 : List Addr} {S : Store} {H : Hp} {a : Addr} {i : Nat} {ds : List D} {xs : List V} (R : Rel c φ1 S H) (hq : SqL c.K H a xs) (rs : Reps c.K φ1 H xs ds) :
    StepOk c (Ite c.K a) i φ1 S H (match ds[i]? with | some d => some (some (D.tup [.int i, d])) | none => some none) := by
  cases e : ds[i]? with
  | none =>
    refine ⟨xs, hq, ?_⟩
    rw [rs.length]
    exact List.getElem?_eq_none_iff.mp e
  | some d =>
    obtain ⟨x, hx, rx⟩ := rs.get' e
    refine ⟨⟨xs, x, hq, hx⟩, ?_⟩
    rintro y H' ⟨Tn, x', e1, e2, e3, hy⟩
    have := hy xs hq
    rw [hx] at this
    exact step_pair R rx ⟨Tn, x', e1, e2, e3, (Option.some.inj this).symm⟩
theorem match_enL {φ : List Addr} {n : Nat} {a : Addr} {H0 : Hp} (ea : φ[n]? = some a) : MatchIt c (Ite c.K a) (.enu (.seq n)) φ H0 := by
  intro i φ1 S H h1 k1 R
  have ea1 := pre_get h1 ea
  have key : ∀ (ds : List D), nextS S (.seq n) i = some ds[i]? → nextS S (.enu (.seq n)) i = (match ds[i]? with | some d => some (some (D.tup [.int i, d])) | none => some none) := fun ds h => by
    have e0 : nextS S (.enu (.seq n)) i = (match nextS S (.seq n) i with | some (some d) => some (some (D.tup [.int i, d])) | some none => some none | none => none) := rfl
    rw [e0, h]
    cases ds[i]? <;> rfl
  cases e : (S : List O)[n]? with
  | none =>
    have h0 : nextS S (.enu (.seq n)) i = none := by
      have e0 : nextS S (.enu (.seq n)) i = (match nextS S (.seq n) i with | some (some d) => some (some (D.tup [.int i, d])) | some none => some none | none => none) := rfl
      have : nextS S (.seq n) i = none := by
        show (match (S : List O)[n]? with | some (.lst ds) => some ds[i]? | some (.fro ds) => some ds[i]? | _ => none) = none
        rw [e]
      rw [e0, this]
    rw [h0]
    exact True.intro
  | some o =>
    cases o with
    | lst ds =>
      obtain ⟨xs, hx, rs⟩ := R.obj _ _ _ ea1 e
      rw [key ds (by show (match (S : List O)[n]? with | some (.lst ds) => some ds[i]? | some (.fro ds) => some ds[i]? | _ => none) = _; rw [e])]
      exact step_enL R (SqL.of hx) rs
    | fro ds =>
      obtain ⟨xs, hx, rs⟩ := (R.obj _ _ _ ea1 e).fro
      rw [key ds (by show (match (S : List O)[n]? with | some (.lst ds) => some ds[i]? | some (.fro ds) => some ds[i]? | _ => none) = _; rw [e])]
      exact step_enL R hx rs
    | dct kvs =>
      have h0 : nextS S (.enu (.seq n)) i = none := by
        have e0 : nextS S (.enu (.seq n)) i = (match nextS S (.seq n) i with | some (some d) => some (some (D.tup [.int i, d])) | some none => some none | none => none) := rfl
        have : nextS S (.seq n) i = none := by
          show (match (S : List O)[n]? with | some (.lst ds) => some ds[i]? | some (.fro ds) => some ds[i]? | _ => none) = none
          rw [e]
        rw [e0, this]
      rw [h0]
      exact True.intro
theorem match_enT {φ : List Addr} {a : Addr} {H0 : Hp} {xs : List V} {ds : List D} (t : TupAt c.K H0 a xs) (rs : Reps c.K φ H0 xs ds) : MatchIt c (Itet c.K a) (.enu (.tup ds)) φ H0 := by
  intro i φ1 S H h1 k1 R
  have t1 := (t.keep k1).sq
  have rs1 := rs.mono h1 k1
  show StepOk c (Itet c.K a) i φ1 S H (match (some ds[i]? : Option (Option D)) with | some (some d) => some (some (D.tup [.int i, d])) | some none => some none | none => none)
  cases e : ds[i]? with
  | none =>
    refine ⟨xs, t1, ?_⟩
    rw [rs1.length]
    exact List.getElem?_eq_none_iff.mp e
  | some d =>
    obtain ⟨x, hx, rx⟩ := rs1.get' e
    refine ⟨⟨xs, x, t1, hx⟩, ?_⟩
    rintro y H' ⟨Tn, x', e1, e2, e3, hy⟩
    have := hy xs t1
    rw [hx] at this
    exact step_pair R rx ⟨Tn, x', e1, e2, e3, (Option.some.inj this).symm⟩
def enumIV (f : EV) : IV := fun σ S => match f σ S with
  | some (d, S1) => match srcD S1 d with
    | some s => some (.enu s, S1)
    | none => none
  | none => none
theorem si_enum {e : Expr} {f : EV} (hg : Gl X "enumerate") (hm : X.mg "enumerate" = none) (he : SE T X e f) (hs : starEach [e] X.env = (false, eval e X.env) :: starEach [] X.env) : SI T X (.Tuple elts kk tpos) (.Call (.Name "enumerate" p) [e] [] pos) (enumIV f) :=
  PI.weak (pi_enum2 hg hm he hs) fun σ H R ⟨φ, σD, S, src, S', RR, L, e, q⟩ => by
    unfold enumIV at e
    split at e
    · rename_i d S1 e1
      split at e
      · rename_i s0 e2
        cases e
        refine ⟨φ, σD, S, d, S', RR, L, e1, fun v H1 ⟨φ1, h1, k1, R1, r1⟩ => ?_⟩
        unfold srcD at e2
        split at e2
        · cases e2
          obtain ⟨a, xs, rfl, t, rs⟩ := r1.tup_inv
          exact ⟨a, rfl, .inr ⟨⟨xs, t.sq⟩, q _ φ1 H1 h1 k1 R1 (match_enT t rs)⟩⟩
        · rename_i n
          obtain ⟨a, rfl, ea⟩ := r1.loc_inv
          split at e2
          · rename_i h
            cases e2
            obtain ⟨xs, hx, rs⟩ := R1.obj _ _ _ ea h
            exact ⟨a, rfl, .inl ⟨⟨xs, SqL.of hx⟩, q _ φ1 H1 h1 k1 R1 (match_enL ea)⟩⟩
          · rename_i h
            cases e2
            obtain ⟨xs, hx, rs⟩ := (R1.obj _ _ _ ea h).fro
            exact ⟨a, rfl, .inl ⟨⟨xs, hx⟩, q _ φ1 H1 h1 k1 R1 (match_enL ea)⟩⟩
          · cases e2
        · cases e2
      · cases e
    · cases e
end
end RF

end

/-! ## SM -/
section
set_option maxRecDepth 100000
/-! A dict display of one pair, the key of any kind. -/
namespace RF
open PySem PySem.Spec PyProof.Rows L2

def disp1E (fk fv : EV) : EV := fun σ S => match fk σ (S ++ [.dct []]) with
  | some (a, S1) => match fv σ S1 with
    | some (b, S2) => match (S2 : List O)[List.length S]? with
      | some (.dct []) => if kindOk [] a = true then some (.loc (List.length S), List.set S2 (List.length S) (.dct (putD [] a b))) else none
      | _ => none
    | none => none
  | none => none
section
variable {X : Cx} {T : List Addr} {m : Nat} {pos : Pos}
theorem se_disp1 {k v : Expr} {fk fv : EV} (hr : Room m X.A) (hk : SE T X k fk) (hv : SE T X v fv) : SE T X (.Dict [some k] [v] pos) (disp1E fk fv) := by
  refine PE.at fun pins s σ H φ σD S d S' I R L e => ?_
  unfold disp1E at e
  split at e
  · rename_i a S1 e1
    split at e
    · rename_i b S2 e2
      split at e
      · rename_i hS2
        split at e
        · rename_i hko
          cases e
          have hn := I.hok.fresh (Nat.le_refl s.heap.objs.size)
          have I1 := I.laid (a := s.heap.objs.size) (o := .dK []) (h' := s.heap.push { cls := .type "dict", data := .dict #[] }) (t' := s.toks) (fun _ _ q => Heap.get?_push_of_some _ q) (Nat.le_refl _) (dk_empty s.heap I.big)
          have RD : Rel (ctOf X T) (φ ++ [s.heap.objs.size]) (S ++ [.dct []]) (upd H s.heap.objs.size (.dK [])) := R.new hn (.inl ⟨[], upd_same, .nil⟩)
          have kD : Keep H (upd H s.heap.objs.size (.dK [])) := Keep.new hn
          have eD : (φ ++ [s.heap.objs.size])[List.length S]? = some s.heap.objs.size := by rw [← R.len]; simp
          have LD := (L.mono (List.prefix_append φ [s.heap.objs.size]) kD)
          rw [arm_eval_Dict, zip_pairTrees [some k] [v] X.env pos rfl rfl, dictDisplay_pairs (pairTrees [some k] [v] X.env pos) (fun z => List.cons_ne_nil _ _ z) (show 1 < 17 by decide)]
          refine wpAny_bind (wpAny_standAt (wpAny_bind ?_))
          show wpAny _ _ (subDict [(eval k X.env, do let x ← eval v X.env; standAt pos; pure x)]) _ _ _
          unfold subDict
          refine wpAny_bind (wpAny_alloc ?_)
          refine wpAny_bind (wpAny_holding ?_)
          have h15 : ∀ p : Sem Value × Sem Value, [p].length ≤ 15 := fun p => by
            show 1 ≤ 15
            decide
          rw [if_pos (h15 _)]
          refine wpAny_bind (evalPairs_cons (thn (se_run hk I1 RD LD e1) fun kv s1 ⟨yk, H2, I2, r2, φ2, h2, k2, R2, ry⟩ => ?_))
          refine wpAny_bind (thn (se_run hv I2 R2 (LD.mono h2 k2) e2) fun vv s2 ⟨yv, H3, I3, r3, φ3, h3, k3, R3, rz⟩ => wpAny_bind (wpAny_standAt (wpAny_pure (evalPairs_nil ?_))))
          refine wpAny_holding ?_
          rw [List.forIn_cons]
          refine wpAny_bind (wpAny_bind (wpAny_bind (thn (dict_dset hr I3 R3 (pre_get (h2.trans h3) eD) hS2 (ry.mono h3 k3) r2 rz r3 hko (Nat.zero_le _)) fun _ s4 ⟨H4, I4, K4, R4⟩ => wpAny_pure ?_)))
          refine wpAny_pure (wpAny_pure (wpAny_pure (wpAny_pure ?_)))
          exact ⟨.ref s.heap.objs.size, H4, I4, rfl, φ3, (List.prefix_append _ _).trans (h2.trans h3), ((kD.trans k2).trans k3).trans K4, R4, .loc (pre_get (h2.trans h3) eD)⟩
        · cases e
      · cases e
    · cases e
  · cases e
end
end RF

end

/-! ## RX -/
section
set_option maxRecDepth 100000
/-! The evaluator of expressions, and that the program does what it tells. -/
namespace RF
open PySem PySem.Spec PyProof.Rows L2

/-- the calls of defs -/
abbrev CallV := Str → GC
structure Rec where
  e : Scope → Expr → EV
  t : Scope → Expr → BV
def noE : EV := fun _ _ => none
def noB : BV := fun _ _ => none
def noA : AV := fun _ _ => none
def noI : IV := fun _ _ => none
def noG : GV := fun _ _ _ => none
def noGs : GVs := fun _ _ _ => none
def noS : SV := fun _ _ => none

section
variable (C : Cfg) (N : List Str) (call : CallV) (lf : Nat) (r : Rec) (gr : Option (List Str → Rec))
def argsA (sc : Scope) : List Expr → AV
  | [] => nilA
  | e :: es => if isStar e = true then noA else consA (r.e sc e) (argsA sc es)
def andBs (sc : Scope) : List Expr → BV
  | [] => noB
  | [a] => r.t sc a
  | a :: b :: es => andB (r.t sc a) (andBs sc (b :: es))
def orBs (sc : Scope) : List Expr → BV
  | [] => noB
  | [a] => r.t sc a
  | a :: b :: es => orB (r.t sc a) (orBs sc (b :: es))
def andEs (sc : Scope) : List Expr → EV
  | [] => noE
  | [a] => r.e sc a
  | a :: b :: es => andE (r.e sc a) (andEs sc (b :: es))
def orEs (sc : Scope) : List Expr → EV
  | [] => noE
  | [a] => r.e sc a
  | a :: b :: es => orE (r.e sc a) (orEs sc (b :: es))
def pairsR (sc : Scope) : List (Option Expr) → List Expr → Option (List (EV × EV))
  | [], [] => some []
  | some k :: ks, v :: vs => match pairsR sc ks vs with
    | some prs => some ((r.e sc k, r.e sc v) :: prs)
    | none => none
  | _, _ => none
def partP (sc : Scope) : Option Expr → PV
  | none => noP
  | some e => someP (r.e sc e)
/-- targets of names -/
def tgW (sc : Scope) (vs : List Nat) : Nat → Expr → GV
  | 0, _ => noG
  | n + 1, .Name x _ => match ixOf N x with
    | some i => if locS sc x = true then if i ∈ vs then setV i else noG else noG
    | none => noG
  | n + 1, .Tuple es _ _ => if noStar es = true then unpackV es.length (go n es) else noG
  | _ + 1, _ => noG
where go (n : Nat) : List Expr → GVs
  | [] => nilV
  | e :: es => consV (tgW sc vs n e) (go n es)
def srcI (sc : Scope) : Expr → IV
  | .Set _ _ _ => noI
  | .Call (.Name x p) args kws pos => if x = "range" then match kws with
    | [] => match args with
      | [a] => if isStar a = true then noI else if glS sc "range" = true then rng1IV (argsA r sc [a]) else noI
      | [a, b] => if isStar a = true then noI else if isStar b = true then noI else if glS sc "range" = true then rng2IV (argsA r sc [a, b]) else noI
      | _ => noI
    | _ => noI
    else seqIV (r.e sc (.Call (.Name x p) args kws pos))
  | e => seqIV (r.e sc e)
/-- with the target: enumerate wants a tuple of targets -/
def srcT (sc : Scope) (tg iter : Expr) : IV := match tg with
  | .Tuple _ _ _ => match iter with
    | .Call (.Name x p) [a] [] pos => if x = "enumerate" then if isStar a = true then noI else if glS sc "enumerate" = true then enumIV (r.e sc a) else noI else srcI r sc (.Call (.Name x p) [a] [] pos)
    | e => srcI r sc e
  | _ => srcI r sc iter
def bltn (x : Str) : Option GC :=
  if x = "len" then some lenG
  else if x = "tuple" then some tupleG
  else if x = "list" then some listG
  else if x = "abs" then some absG
  else if x = "int" then some intG
  else if x = "min" then some (orG min2G (overG intsOf leastI))
  else if x = "max" then some (orG max2G (overG intsOf mostI))
  else if x = "sum" then some (overG intsOf sumI)
  else if x = "any" then some (overG blsOf anyB)
  else if x = "all" then some (overG blsOf allB)
  else if x = "sorted" then some (orG sortedG sortedDG)
  else if x = "dict" then some dictG
  else if x = "repr" then some reprG
  else none
def glOf (name : Str) : Option GM :=
  if name = "append" then some appendG
  else if name = "pop" then some popG
  else if name = "index" then some indexG
  else none
def gdOf (name : Str) : Option GM :=
  if name = "pop" then some dpopG
  else none
def isFn (x : Str) : Bool := C.fns.any fun f => f.name = x
def bcall (sc : Scope) (x : Str) (args : List Expr) : EV := match bltn x with
  | some g => match args with
    | [] => noE
    | e :: es => if noStar (e :: es) = true then callE g (argsA r sc (e :: es)) else noE
  | none => noE
def callN (sc : Scope) (x : Str) (args : List Expr) : EV := if okName x = true then if glS sc x = true then
    if isFn C x = true then match args with
      | [] => callE (call x) nilA
      | e :: es => if noStar (e :: es) = true then callE (call x) (argsA r sc (e :: es)) else noE
    else bcall r sc x args
    else noE else noE
def callM (sc : Scope) (o : Expr) (name : Str) (apos : Pos) (args : List Expr) (cpos : Pos) : EV := if plainBase o = true then if (apos.endLine == cpos.line) = true then match args with
    | [] => methE (glOf name) (gdOf name) (r.e sc o) nilA
    | e :: es => if noStar (e :: es) = true then if (e :: es).length < 30 then methE (glOf name) (gdOf name) (r.e sc o) (argsA r sc (e :: es)) else noE else noE
    else noE else noE
def callX (sc : Scope) (f : Expr) (args : List Expr) (pos : Pos) : EV := match f with
  | .Name x _ => callN C call r sc x args
  | .Attribute o name apos => callM r sc o name apos args pos
  | _ => noE
/-- list(range(a)), sorted(set(a)) -/
def call2 (sc : Scope) (x y : Str) (a : Expr) (other : EV) : EV :=
  if x = "list" ∧ y = "range" then if isStar a = true then noE else if glS sc "list" = true then if glS sc "range" = true then listRg (rng1IV (consA (r.e sc a) nilA)) else noE else noE
  else if x = "sorted" ∧ y = "set" then if isStar a = true then noE else if glS sc "sorted" = true then if glS sc "set" = true then sortSetE (r.e sc a) else noE else noE
  else other
def ownOf (N : List Str) (scope : Scope) : List (Str × Nat) := scope.names.filterMap fun y => match y.2 with
  | .local => (ixOf N y.1).map fun i => (y.1, i)
  | .cell => (ixOf N y.1).map fun i => (y.1, i)
  | _ => none
def testsR (sc : Scope) : List Expr → BV
  | [] => yesB
  | [c] => r.t sc c
  | _ => noB
def lcR (sc : Scope) (elt tg iter : Expr) (ifs : List Expr) (scope : Scope) : EV :=
  if blkC N sc scope (ownOf N scope) = true then lcE (srcT r sc tg iter) (tgW N scope ((ownOf N scope).map (·.2)) 3 tg) (testsR r scope ifs) (r.e scope elt) ((ownOf N scope).map (·.2)) lf else noE
def dcR (sc : Scope) (kx vx tg iter : Expr) (ifs : List Expr) (scope : Scope) : EV :=
  if blkC N sc scope (ownOf N scope) = true then dcE (srcT r sc tg iter) (tgW N scope ((ownOf N scope).map (·.2)) 3 tg) (testsR r scope ifs) (r.e scope kx) (r.e scope vx) ((ownOf N scope).map (·.2)) lf else noE
/-- the names of a generator expression's frame -/
def N2 (scope : Scope) : List Str := scope.names.map (·.1)
def gnIter : Expr → Bool
  | .List _ _ => false
  | e => notSet e
def eaterOf (x : Str) : Option (Gn → Slots → Store → Option (D × Store)) :=
  if x = "any" then some (eatAny lf)
  else if x = "all" then some (eatAll lf)
  else if x = "sum" then some (eatSum lf)
  else if x = "tuple" then some (eatTup lf)
  else none
def genR (sc : Scope) (x : Str) (elt tg iter : Expr) (ifs : List Expr) (scope : Scope) : EV := match gr with
  | none => noE
  | some f => if gnC sc scope (N2 scope) = true then if gnIter iter = true then if glS sc x = true then match eaterOf lf x with
    | some eat => genE (srcT r sc tg iter) (capsC N sc scope (N2 scope)) (tgW (N2 scope) scope (List.range (N2 scope).length) 3 tg) (testsR (f (N2 scope)) scope ifs) ((f (N2 scope)).e scope elt) lf eat
    | none => noE
    else noE else noE else noE
def isRev : Expr → Bool
  | .UnaryOp .USub (.Constant (.int 1) _ _) _ => true
  | _ => false
def stepE (sc : Scope) (e : Expr) : EV := match e with
  | .Constant c _ _ => constE c
  | .Name x _ => nameE C N sc x
  | .BinOp a op b _ => bind2 (binD op) (r.e sc a) (r.e sc b)
  | .UnaryOp .USub a _ => negE (r.e sc a)
  | .UnaryOp .Not a _ => notE (r.e sc a)
  | .BoolOp .And es _ => andEs r sc es
  | .BoolOp .Or es _ => orEs r sc es
  | .Compare a [op] [b] _ => if notSet b = true then bind2 (cmpD op) (r.e sc a) (r.e sc b) else noE
  | .Compare a [op, op'] [b, c] _ => if notSet c = true then chainE (cmpD op) (cmpD op') (r.e sc a) (r.e sc b) (r.e sc c) else noE
  | .IfExp c a b _ => ifE (r.t sc c) (r.e sc a) (r.e sc b)
  | .Tuple es _ _ => tupE (argsA r sc es)
  | .List es _ => lstE (argsA r sc es)
  | .Dict [some k] [v] _ => disp1E (r.e sc k) (r.e sc v)
  | .Dict ks vs _ => match ks with
    | [] => match vs with
      | [] => dict0E
      | _ => noE
    | k :: ks => if (k :: ks).length ≤ 15 then match pairsR r sc (k :: ks) vs with
      | some prs => dispE prs
      | none => noE
      else noE
  | .Subscript a (.Slice lo hi none _) _ => sliceE (r.e sc a) (partP r sc lo) (partP r sc hi)
  | .Subscript a (.Slice none none (some (.UnaryOp .USub (.Constant (.int 1) _ _) _)) _) _ => revE (r.e sc a)
  | .Subscript a b _ => if notSlice b = true then bind2 ixD (r.e sc a) (r.e sc b) else noE
  | .Call f args [] pos => callX C call r sc f args pos
  | .ListComp elt [⟨tg, iter, ifs, 0⟩] scope _ => lcR N lf r sc elt tg iter ifs scope
  | .DictComp kx vx [⟨tg, iter, ifs, 0⟩] scope _ => dcR N lf r sc kx vx tg iter ifs scope
  | _ => noE
/-- the calls of forms of their own, ahead of all others -/
def stepF (sc : Scope) (e : Expr) : EV := match e with
  | .Call (.Name x _) [.Call (.Name y _) [a] [] _] [] _ => call2 r sc x y a (stepE C N call lf r sc e)
  | .Call (.Name x _) [.GeneratorExp elt [⟨tg, iter, ifs, 0⟩] scope _] [] _ => genR N lf r gr sc x elt tg iter ifs scope
  | _ => stepE C N call lf r sc e
def cmpB (f : EV) : BV := fun σ S => match f σ S with
  | some (.bl b, S1) => some (b, S1)
  | _ => none
def stepT (sc : Scope) (e : Expr) : BV := match e with
  | .UnaryOp .Not a _ => notB (r.t sc a)
  | .BoolOp .And es _ => andBs r sc es
  | .BoolOp .Or es _ => orBs r sc es
  | .Compare a [op] [b] _ => if notSet b = true then cmpB (bind2 (cmpD op) (r.e sc a) (r.e sc b)) else noB
  | .Compare _ _ _ _ => noB
  | .IfExp _ _ _ _ => noB
  | e => truE (r.e sc e)
end
section
variable (C : Cfg) (call : CallV) (lf : Nat)
/-- gd: generator expressions are told; N: the frame's names -/
def evl : Nat → Bool → List Str → Rec
  | 0, _, _ => ⟨fun _ _ => noE, fun _ _ => noB⟩
  | n + 1, gd, N => ⟨stepF C N call lf (evl n gd N) (if gd = true then some (evl n false) else none), stepT (evl n gd N)⟩
end

/-! ### soundness -/
/-- the defs that may be called -/
structure CallsOk (C : Cfg) (T : List Addr) (call : CallV) (lv : Nat) (gd : Bool) (X : Cx) : Prop where
  fn : ∀ x, isFn C x = true → ∃ (f : Addr) (fd : FuncData) (ps : List Str), FnOk X.prog X.w X.K X.mg X.base C8.CX0 (lv - gd.toNat) f fd ps (spF (ctOf X T) (call x)) ∧ X.mg x = some (.ref f) ∧ PySem.W.keepIn X.K (.ref f) = true ∧ Binds X.K fd ps []
  tb : gd = true → 0 < lv ∧ ∃ c P, X.env.code = .ref c ∧ GxR.TabB X.base X.mg c P ∧ P ∈ T
theorem CallsOk.same {C : Cfg} {T : List Addr} {call : CallV} {lv : Nat} {gd : Bool} {X Y : Cx} (h : CallsOk C T call lv gd X) (s : SameP X Y) : CallsOk C T call lv gd Y := by
  obtain ⟨h1, h2, h3, h4, h5, h6⟩ := s
  refine ⟨fun x hx => ?_, by rw [h4, h5, h6]; exact h.tb⟩
  obtain ⟨f, fd, ps, a, b, c, d⟩ := h.fn x hx
  have e : ctOf Y T = ctOf X T := by unfold ctOf; rw [h1, h2, h3]
  exact ⟨f, fd, ps, by rw [h1, h2, h3, h4, h5, e]; exact a, by rw [h4]; exact b, by rw [h3]; exact c, by rw [h3]; exact d⟩
/-- within a generator's frame -/
theorem CallsOk.gen {C : Cfg} {T : List Addr} {call : CallV} {l : Nat} {X Y : Cx} (h : CallsOk C T call (l + 1) true X) (s : SameG X Y) : CallsOk C T call l false Y := by
  obtain ⟨h1, h2, h3, h4, h5⟩ := s
  refine ⟨fun x hx => ?_, fun z => Bool.noConfusion z⟩
  obtain ⟨f, fd, ps, a, b, c, d⟩ := h.fn x hx
  have e : ctOf Y T = ctOf X T := by unfold ctOf; rw [h1, h2, h3]
  exact ⟨f, fd, ps, by rw [h1, h2, h3, h4, h5, e]; exact a, by rw [h4]; exact b, by rw [h3]; exact c, by rw [h3]; exact d⟩
/-- an evaluator that tells what the program does -/
def RecOk (C : Cfg) (N : List Str) (T : List Addr) (call : CallV) (gd : Bool) (r : Rec) : Prop :=
  ∀ (X : Cx) (sc : Scope) (lv : Nat), XB C N sc lv X → CallsOk C T call lv gd X → ∀ e, SE T X e (r.e sc e) ∧ ST T X e (r.t sc e)
theorem se_no {X : Cx} {T : List Addr} {e : Expr} : SE T X e noE := se_fail fun _ _ => rfl
theorem st_no {X : Cx} {T : List Addr} {e : Expr} : ST T X e noB :=
  PT.weak (t := fun _ _ _ => False) ⟨fun _ _ _ _ _ _ h => h.elim⟩ fun σ H Q ⟨φ, σD, S, d, S', R, L, e, q⟩ => by cases e
theorem sw_no {X : Cx} {T : List Addr} {e : Expr} : SW T X e noB :=
  PW.weak (u := tT (ctOf X T) noB) (t := fun _ _ _ => False) ⟨fun _ _ _ _ _ _ _ h => h.elim⟩ fun σ H Q ⟨φ, σD, S, d, S', R, L, e, q⟩ => by cases e
theorem sa_no {X : Cx} {T : List Addr} {es : List Expr} : SA T X es noA :=
  PA.weak (t := fun _ _ _ => False) ⟨fun _ _ _ _ _ _ _ h => h.elim⟩ fun σ H Q ⟨φ, σD, S, d, S', R, L, e, q⟩ => by cases e
theorem si_no {X : Cx} {T : List Addr} {tg e : Expr} : SI T X tg e noI :=
  PI.weak (t := fun _ _ _ => False) ⟨fun _ _ _ _ _ _ h => h.elim⟩ fun σ H Q ⟨φ, σD, S, d, S', R, L, e, q⟩ => by cases e
theorem sgw_no {X : Cx} {T : List Addr} {tg : Expr} {vs : List Nat} : SGw T X vs tg noG :=
  PG.weak (t := fun _ _ _ _ => False) ⟨fun _ _ _ _ _ _ _ _ _ h => h.elim⟩ fun v σ H Q ⟨φ, σD, S, d, σD', S', R, L, r, e, q⟩ => by cases e
theorem ss_no {X : Cx} {T : List Addr} {st : Stmt} : SS T X st noS :=
  PS.weak (t := fun _ _ _ => False) ⟨fun _ _ _ _ _ _ h => h.elim⟩ fun De σ H ⟨φ, σD, S, r, σD', S', R, L, e, o⟩ => by cases e
section
variable {C : Cfg} {N : List Str} {T : List Addr} {call : CallV} {lf : Nat} {r : Rec} {X : Cx} {sc : Scope} {lv : Nat}
theorem args_ok (h : ∀ e, SE T X e (r.e sc e)) : ∀ es : List Expr, SA T X es (argsA r sc es)
  | [] => sa_nil
  | e :: es => by
    unfold argsA
    split
    · exact sa_no
    · rename_i hs
      exact sa_cons (h e) (args_ok h es) (starEach_cons (by simpa using hs))
theorem ands_ok {pos : Pos} (h : ∀ e, ST T X e (r.t sc e)) : ∀ es : List Expr, SW T X (.BoolOp .And es pos) (andBs r sc es)
  | [] => sw_no
  | [a] => sw_and1 (h a)
  | a :: b :: es => sw_and (h a) (ands_ok h (b :: es))
theorem ors_ok {pos : Pos} (h : ∀ e, ST T X e (r.t sc e)) : ∀ es : List Expr, SW T X (.BoolOp .Or es pos) (orBs r sc es)
  | [] => sw_no
  | [a] => sw_or1 (h a)
  | a :: b :: es => sw_or (h a) (ors_ok h (b :: es))
theorem andEs_ok {pos : Pos} (h : ∀ e, SE T X e (r.e sc e)) : ∀ es : List Expr, SE T X (.BoolOp .And es pos) (andEs r sc es)
  | [] => se_no
  | [a] => se_one (h a)
  | a :: b :: es => se_and (h a) (andEs_ok h (b :: es))
theorem orEs_ok {pos : Pos} (h : ∀ e, SE T X e (r.e sc e)) : ∀ es : List Expr, SE T X (.BoolOp .Or es pos) (orEs r sc es)
  | [] => se_no
  | [a] => se_one (h a)
  | a :: b :: es => se_or (h a) (orEs_ok h (b :: es))
theorem pairs_ok (h : ∀ e, SE T X e (r.e sc e)) : ∀ (ks : List (Option Expr)) (vs : List Expr) (prs : List (EV × EV)), pairsR r sc ks vs = some prs → DPairs T X ks vs prs
  | [], [], prs, e => by cases e; exact .nil
  | [], _ :: _, prs, e => by simp [pairsR] at e
  | none :: _, _, prs, e => by simp [pairsR] at e
  | some _ :: _, [], prs, e => by simp [pairsR] at e
  | some k :: ks, v :: vs, prs, e => by
    simp only [pairsR] at e
    split at e
    · rename_i p hp
      cases e
      exact .cons (h k) (h v) (pairs_ok h ks vs p hp)
    · cases e
theorem part_ok (h : ∀ e, SE T X e (r.e sc e)) : ∀ o : Option Expr, PO X o (tO (ctOf X T) (partP r sc o))
  | none => so_none
  | some e => so_some (h e)
theorem assignEach_cons {e : Expr} {es : List Expr} {env : Env} (h : isStar e = false) : assignEach (e :: es) env = (false, assign e env) :: assignEach es env := by
  cases e <;> first | rfl | cases h
theorem assignEach_len {env : Env} : ∀ {es : List Expr}, noStar es = true → (assignEach es env).length = es.length ∧ (assignEach es env).findIdx? (·.1) = none
  | [], _ => ⟨rfl, rfl⟩
  | e :: es, h => by
    obtain ⟨h1, h2⟩ := noStar_cons h
    obtain ⟨g1, g2⟩ := assignEach_len (env := env) h2
    rw [assignEach_cons h1]
    refine ⟨by simp [g1], ?_⟩
    rw [List.findIdx?_cons]
    simp [g2]
theorem tgW_ok (xb : XB C N sc lv X) (vs : List Nat) : ∀ (n : Nat) (tg : Expr), SGw T X vs tg (tgW N sc vs n tg)
  | 0, tg => by unfold tgW; exact sgw_no
  | n + 1, tg => by
    cases tg
    case Name x p =>
      show SGw T X vs (.Name x p) (match ixOf N x with
        | some i => if locS sc x = true then if i ∈ vs then setV i else noG else noG
        | none => noG)
      split
      · rename_i i hi
        split
        · rename_i hl
          split
          · rename_i hv
            exact sgw_name xb hi hl hv
          · exact sgw_no
        · exact sgw_no
      · exact sgw_no
    case Tuple es k p =>
      show SGw T X vs (.Tuple es k p) (if noStar es = true then unpackV es.length (tgW.go N sc vs n es) else noG)
      split
      · rename_i hs
        obtain ⟨g1, g2⟩ := assignEach_len (env := X.env) hs
        refine sgw_tup xb.calm ?_ g1 g2
        have go : ∀ es : List Expr, noStar es = true → SGws T X vs es (tgW.go N sc vs n es) := by
          intro es
          induction es with
          | nil => intro _; exact sgws_nil
          | cons e es ih =>
            intro hs
            obtain ⟨h1, h2⟩ := noStar_cons hs
            refine sgws_cons (tgW_ok xb vs n e) (ih h2) ?_
            rw [assignEach_cons h1]
            rfl
        exact go es hs
      · exact sgw_no
    all_goals exact sgw_no
theorem src_ok (xb : XB C N sc lv X) (h : ∀ e, SE T X e (r.e sc e)) (tg iter : Expr) : SI T X tg iter (srcI r sc iter) := by
  unfold srcI
  split
  · exact si_no
  · rename_i x p args kws pos
    split
    · rename_i hx
      subst hx
      split
      · split
        · rename_i a
          split
          · exact si_no
          · rename_i hs
            split
            · rename_i hg
              have hs' : isStar a = false := by simpa using hs
              exact si_range1 (glS_gl xb.sr hg) (xb.mgb _ (by decide)) (args_ok h [a]) (starEach_cons hs')
            · exact si_no
        · rename_i a b
          split
          · exact si_no
          · rename_i hs
            split
            · exact si_no
            · rename_i hs2
              split
              · rename_i hg
                have hs' : isStar a = false := by simpa using hs
                have hs2' : isStar b = false := by simpa using hs2
                exact si_range2 (glS_gl xb.sr hg) (xb.mgb _ (by decide)) (args_ok h [a, b]) (by rw [starEach_cons hs', starEach_cons hs2']; rfl) (starEach_cons hs2')
              · exact si_no
        · exact si_no
      · exact si_no
    · exact si_seq (h _)
  · exact si_seq (h _)
theorem fold_ok {iter : Expr} {env : Env} (h : notSet iter = true) (x : Value) : foldedSetIterable iter env x = pure x := by
  cases iter <;> first | rfl | cases h
theorem srcI_set {iter : Expr} (h : notSet iter = false) : srcI r sc iter = noI := by
  cases iter <;> first | rfl | cases h
theorem srcT_ok (xb : XB C N sc lv X) (h : ∀ e, SE T X e (r.e sc e)) (tg iter : Expr) : SI T X tg iter (srcT r sc tg iter) := by
  unfold srcT
  split
  · split
    · rename_i x p a pos
      split
      · rename_i hx
        subst hx
        split
        · exact si_no
        · rename_i hs
          split
          · rename_i hg
            exact si_enum (glS_gl xb.sr hg) (xb.mgb _ (by decide)) (h a) (starEach_cons (by simpa using hs))
          · exact si_no
      · exact src_ok xb h _ _
    · exact src_ok xb h _ _
  · exact src_ok xb h _ _
theorem srcT_set {tg iter : Expr} (h : notSet iter = false) : srcT r sc tg iter = noI := by
  have e : ∀ tg : Expr, srcT r sc tg iter = srcI r sc iter := by
    intro tg
    cases iter
    case Set => cases tg <;> rfl
    all_goals cases h
  rw [e, srcI_set h]
end
end RF

end

/-! ## RY -/
section
set_option maxRecDepth 100000
/-! The evaluator of expressions is right. -/
namespace RF
open PySem PySem.Spec PyProof.Rows L2

section
variable {C : Cfg} {N : List Str} {T : List Addr} {call : CallV} {lf : Nat} {r : Rec} {X : Cx} {sc : Scope} {lv : Nat} {gd : Bool} {gr : Option (List Str → Rec)}
/-- a built-in that is called by its name -/
def BltOk (T : List Addr) (X : Cx) (x : Str) (g : GC) : Prop := x ∈ bltnNames ∧ ((∃ id, bootBuiltins x = some (.builtin id) ∧ DoesCall T X (.builtin id) g) ∨ ∃ ty, bootBuiltins x = some (.type ty) ∧ DoesCall T X (.type ty) g)
theorem bltn_ok (xb : XB C N sc lv X) {x : Str} {g : GC} (h : bltn x = some g) : BltOk T X x g := by
  unfold bltn at h
  by_cases e_len : x = "len"
  · rw [if_pos e_len] at h
    subst e_len
    cases h
    exact ⟨by decide, .inl ⟨_, boot_len, does_len⟩⟩
  rw [if_neg e_len] at h
  by_cases e_tuple : x = "tuple"
  · rw [if_pos e_tuple] at h
    subst e_tuple
    cases h
    exact ⟨by decide, .inr ⟨_, boot_tuple, does_tuple⟩⟩
  rw [if_neg e_tuple] at h
  by_cases e_list : x = "list"
  · rw [if_pos e_list] at h
    subst e_list
    cases h
    exact ⟨by decide, .inr ⟨_, boot_list, does_list⟩⟩
  rw [if_neg e_list] at h
  by_cases e_abs : x = "abs"
  · rw [if_pos e_abs] at h
    subst e_abs
    cases h
    exact ⟨by decide, .inl ⟨_, by decide +kernel, does_abs⟩⟩
  rw [if_neg e_abs] at h
  by_cases e_int : x = "int"
  · rw [if_pos e_int] at h
    subst e_int
    cases h
    exact ⟨by decide, .inr ⟨_, by decide +kernel, does_int1⟩⟩
  rw [if_neg e_int] at h
  by_cases e_min : x = "min"
  · rw [if_pos e_min] at h
    subst e_min
    cases h
    exact ⟨by decide, .inl ⟨_, by decide +kernel, (does_min2 xb.calm).or (does_min xb.calm)⟩⟩
  rw [if_neg e_min] at h
  by_cases e_max : x = "max"
  · rw [if_pos e_max] at h
    subst e_max
    cases h
    exact ⟨by decide, .inl ⟨_, by decide +kernel, (does_max2 xb.calm).or (does_max xb.calm)⟩⟩
  rw [if_neg e_max] at h
  by_cases e_sum : x = "sum"
  · rw [if_pos e_sum] at h
    subst e_sum
    cases h
    exact ⟨by decide, .inl ⟨_, by decide +kernel, does_sum xb.calm⟩⟩
  rw [if_neg e_sum] at h
  by_cases e_any : x = "any"
  · rw [if_pos e_any] at h
    subst e_any
    cases h
    exact ⟨by decide, .inl ⟨_, by decide +kernel, does_any xb.calm⟩⟩
  rw [if_neg e_any] at h
  by_cases e_all : x = "all"
  · rw [if_pos e_all] at h
    subst e_all
    cases h
    exact ⟨by decide, .inl ⟨_, by decide +kernel, does_all xb.calm⟩⟩
  rw [if_neg e_all] at h
  by_cases e_sorted : x = "sorted"
  · rw [if_pos e_sorted] at h
    subst e_sorted
    cases h
    exact ⟨by decide, .inl ⟨_, boot_sorted, (does_sorted xb.room).or (does_sortedD xb.calm xb.room)⟩⟩
  rw [if_neg e_sorted] at h
  by_cases e_dict : x = "dict"
  · rw [if_pos e_dict] at h
    subst e_dict
    cases h
    exact ⟨by decide, .inr ⟨_, by decide +kernel, does_dict xb.calm xb.room⟩⟩
  rw [if_neg e_dict] at h
  by_cases e_repr : x = "repr"
  · rw [if_pos e_repr] at h
    subst e_repr
    cases h
    exact ⟨by decide, .inl ⟨_, by decide +kernel, does_repr⟩⟩
  rw [if_neg e_repr] at h
  cases h
theorem gl_ok (xb : XB C N sc lv X) {name : Str} : ∀ g, glOf name = some g → MethOf T X "list" name g := by
  intro g h
  unfold glOf at h
  by_cases e_append : name = "append"
  · rw [if_pos e_append] at h
    subst e_append
    cases h
    exact meth_append
  rw [if_neg e_append] at h
  by_cases e_pop : name = "pop"
  · rw [if_pos e_pop] at h
    subst e_pop
    cases h
    exact meth_pop
  rw [if_neg e_pop] at h
  by_cases e_index : name = "index"
  · rw [if_pos e_index] at h
    subst e_index
    cases h
    exact meth_index xb.room
  rw [if_neg e_index] at h
  cases h
theorem gd_ok (xb : XB C N sc lv X) {name : Str} : ∀ g, gdOf name = some g → MethOf T X "dict" name g := by
  intro g h
  unfold gdOf at h
  by_cases e_pop : name = "pop"
  · rw [if_pos e_pop] at h
    subst e_pop
    cases h
    exact meth_dpop xb.room
  rw [if_neg e_pop] at h
  cases h
theorem bcall_ok (xb : XB C N sc lv X) (h : ∀ e, SE T X e (r.e sc e)) {x : Str} {p pos : Pos} {args : List Expr} (hok : okName x = true) (hg : glS sc x = true) : SE T X (.Call (.Name x p) args [] pos) (bcall r sc x args) := by
  unfold bcall
  split
  · rename_i g hb
    obtain ⟨hm, hb⟩ := bltn_ok (T := T) xb hb
    split
    · exact se_no
    · rename_i e es
      split
      · rename_i hs
        rcases hb with ⟨id, hv, dc⟩ | ⟨ty, hv, dc⟩
        · exact se_callB dc (glS_gl xb.sr hg) (xb.mgb x hm) hv (args_ok h _) hok hs
        · exact se_callTy dc (glS_gl xb.sr hg) (xb.mgb x hm) hv (args_ok h _) hok hs
      · exact se_no
  · exact se_no
theorem callX_ok (xb : XB C N sc lv X) (co : CallsOk C T call lv gd X) (h : ∀ e, SE T X e (r.e sc e)) (f : Expr) (args : List Expr) (pos : Pos) : SE T X (.Call f args [] pos) (callX C call r sc f args pos) := by
  cases f
  case Name x p =>
    show SE T X _ (callN C call r sc x args)
    unfold callN
    split
    · rename_i hok
      split
      · rename_i hg
        split
        · rename_i hf
          obtain ⟨a, fd, ps, F, hm, hk, hb⟩ := co.fn x hf
          cases args with
          | nil => exact se_call0 F (xb.room.mono (Nat.sub_le _ _)) (glS_gl xb.sr hg) hm hk hb hok
          | cons e es =>
            show SE T X _ (if noStar (e :: es) = true then callE (call x) (argsA r sc (e :: es)) else noE)
            split
            · rename_i hs
              exact se_call F (xb.room.mono (Nat.sub_le _ _)) (glS_gl xb.sr hg) hm hk hb (args_ok h _) hok hs
            · exact se_no
        · exact bcall_ok xb h hok hg
      · exact se_no
    · exact se_no
  case Attribute o name apos =>
    show SE T X _ (callM r sc o name apos args pos)
    unfold callM
    split
    · rename_i hb
      split
      · rename_i hl
        cases args with
        | nil => exact se_meth0 (gl_ok xb) (gd_ok xb) (h o) hb hl
        | cons e es =>
          show SE T X _ (if noStar (e :: es) = true then if (e :: es).length < 30 then methE (glOf name) (gdOf name) (r.e sc o) (argsA r sc (e :: es)) else noE else noE)
          split
          · rename_i hs
            split
            · rename_i hf
              exact se_meth (gl_ok xb) (gd_ok xb) (h o) (args_ok h _) hb hl hs hf
            · exact se_no
          · exact se_no
      · exact se_no
    · exact se_no
  all_goals exact se_no
theorem call2_ok (xb : XB C N sc lv X) (h : ∀ e, SE T X e (r.e sc e)) {x y : Str} {a : Expr} {p1 p2 p3 p4 : Pos} {other : EV} (ho : SE T X (.Call (.Name x p1) [.Call (.Name y p2) [a] [] p3] [] p4) other) : SE T X (.Call (.Name x p1) [.Call (.Name y p2) [a] [] p3] [] p4) (call2 r sc x y a other) := by
  unfold call2
  split
  · rename_i e
    obtain ⟨rfl, rfl⟩ := e
    split
    · exact se_no
    · rename_i hs
      split
      · rename_i hg
        split
        · rename_i hg2
          exact se_listRg1 xb.calm (glS_gl xb.sr hg2) (xb.mgb _ (by decide)) (glS_gl xb.sr hg) (xb.mgb _ (by decide)) (h a) (starEach_cons (by simpa using hs)) (starEach_cons rfl)
        · exact se_no
      · exact se_no
  · split
    · rename_i e
      obtain ⟨rfl, rfl⟩ := e
      split
      · exact se_no
      · rename_i hs
        split
        · rename_i hg
          split
          · rename_i hg2
            exact se_sortSet xb.calm xb.room (glS_gl xb.sr hg) (xb.mgb _ (by decide)) (glS_gl xb.sr hg2) (xb.mgb _ (by decide)) (h a) (starEach_cons (by simpa using hs))
          · exact se_no
        · exact se_no
    · exact ho
theorem tests_ok (h : ∀ e, ST T X e (r.t sc e)) : ∀ ifs : List Expr, STs T X ifs (testsR r sc ifs)
  | [] => sts_nil
  | [c] => sts_one (h c)
  | _ :: _ :: _ => PTs.weak (u := tT (ctOf X T) noB) (t := fun _ _ _ => False) ⟨fun _ _ _ _ _ _ h => h.elim⟩ fun σ H Q ⟨φ, σD, S, d, S', R, L, e, q⟩ => by cases e
theorem lcE_no {g : GV} {tt : BV} {fe : EV} {vs : List Nat} {n : Nat} (σ : Slots) (S : Store) : lcE noI g tt fe vs n σ S = none := rfl
theorem dcE_no {g : GV} {tt : BV} {fk fv : EV} {vs : List Nat} {n : Nat} (σ : Slots) (S : Store) : dcE noI g tt fk fv vs n σ S = none := rfl
theorem lcR_ok (ro : RecOk C N T call gd r) (xb : XB C N sc lv X) (co : CallsOk C T call lv gd X) {elt tg iter : Expr} {ifs : List Expr} {scope : Scope} {pos : Pos} : SE T X (.ListComp elt [⟨tg, iter, ifs, 0⟩] scope pos) (lcR N lf r sc elt tg iter ifs scope) := by
  unfold lcR
  split
  · rename_i ok
    cases hs : notSet iter with
    | true =>
      exact se_lc lf xb (srcT_ok xb (fun e => (ro X sc lv xb co e).1) tg iter) ok (fun Y yb _ => tgW_ok yb _ 3 tg) (fun Y yb s => tests_ok (fun e => (ro Y scope lv yb (co.same s) e).2) ifs) (fun Y yb s => (ro Y scope lv yb (co.same s) elt).1) (fold_ok hs)
    | false =>
      rw [srcT_set hs]
      exact se_fail lcE_no
  · exact se_no
theorem dcR_ok (ro : RecOk C N T call gd r) (xb : XB C N sc lv X) (co : CallsOk C T call lv gd X) {kx vx tg iter : Expr} {ifs : List Expr} {scope : Scope} {pos : Pos} : SE T X (.DictComp kx vx [⟨tg, iter, ifs, 0⟩] scope pos) (dcR N lf r sc kx vx tg iter ifs scope) := by
  unfold dcR
  split
  · rename_i ok
    cases hs : notSet iter with
    | true =>
      exact se_dc lf xb (srcT_ok xb (fun e => (ro X sc lv xb co e).1) tg iter) ok (fun Y yb _ => tgW_ok yb _ 3 tg) (fun Y yb s => tests_ok (fun e => (ro Y scope lv yb (co.same s) e).2) ifs) (fun Y yb s => (ro Y scope lv yb (co.same s) kx).1) (fun Y yb s => (ro Y scope lv yb (co.same s) vx).1) (fold_ok hs)
    | false =>
      rw [srcT_set hs]
      exact se_fail dcE_no
  · exact se_no
theorem lastMarks2 {op op' : CmpOp} {b c : Expr} (h : notSet c = true) : lastMarks [op, op'] [b, c] = false := behind_of h
theorem stepE_ok (ro : RecOk C N T call gd r) (xb : XB C N sc lv X) (co : CallsOk C T call lv gd X) (e : Expr) : SE T X e (stepE C N call lf r sc e) := by
  have h := fun e => (ro X sc lv xb co e).1
  have ht := fun e => (ro X sc lv xb co e).2
  unfold stepE
  split
  · exact se_const
  · exact se_name xb
  · exact se_binD _ (h _) (h _)
  · exact se_neg (h _)
  · exact se_not (h _)
  · exact andEs_ok h _
  · exact orEs_ok h _
  · split
    · rename_i hs
      exact se_cmpD xb.room hs (h _) (h _)
    · exact se_no
  · split
    · rename_i hs
      exact se_chain xb.room (lastMarks2 hs) (does_cmp xb.room _) (h _) (h _) (h _) (pe_chain (opR_of (does_cmp xb.room _)) (opR_of (does_cmp xb.room _)) (h _) (h _) (h _) (lastMarks2 hs))
    · exact se_no
  · exact se_if (ht _) (h _) (h _)
  · exact se_tup (args_ok h _)
  · exact se_lst (args_ok h _)
  · exact se_disp1 xb.room (h _) (h _)
  · split
    · split
      · exact se_dict0
      · exact se_no
    · split
      · rename_i hl
        split
        · rename_i prs hp
          exact se_disp (pairs_ok h _ _ _ hp) (by simp) hl
        · exact se_no
      · exact se_no
  · exact se_slice (h _) (part_ok h _) (part_ok h _)
  · exact se_rev (h _)
  · split
    · rename_i hs
      exact se_ix xb.room hs (h _) (h _)
    · exact se_no
  · exact callX_ok xb co h _ _ _
  · exact lcR_ok ro xb co
  · exact dcR_ok ro xb co
  · exact se_no
theorem gnFold_ok {iter : Expr} (h : gnIter iter = true) (env : Env) (v : Value) : genFold iter env v = pure v := by
  unfold genFold
  cases iter
  case List => cases h
  all_goals exact fold_ok (by exact h) v
theorem genR_ok (ro : RecOk C N T call gd r) (hgr : ∀ f, gr = some f → gd = true ∧ ∀ N', RecOk C N' T call false (f N')) (xb : XB C N sc lv X) (co : CallsOk C T call lv gd X) {x : Str} {elt tg iter : Expr} {ifs : List Expr} {scope : Scope} {p gpos pos : Pos} :
    SE T X (.Call (.Name x p) [.GeneratorExp elt [⟨tg, iter, ifs, 0⟩] scope gpos] [] pos) (genR N lf r gr sc x elt tg iter ifs scope) := by
  unfold genR
  split
  · exact se_no
  · rename_i f
    obtain ⟨rfl, hf⟩ := hgr f rfl
    split
    · rename_i ok
      split
      · rename_i hit
        split
        · rename_i hg
          obtain ⟨h0, c, P, hcode, TB, hP⟩ := co.tb rfl
          obtain ⟨l, rfl⟩ : ∃ l, lv = l + 1 := ⟨lv - 1, by omega⟩
          have go : GnOk T C X (N2 scope) scope l tg elt ifs (tgW (N2 scope) scope (List.range (N2 scope).length) 3 tg) (testsR (f (N2 scope)) scope ifs) ((f (N2 scope)).e scope elt) :=
            ⟨fun Y yb s => (tgW_ok yb _ 3 tg).sg, fun Y yb s => tests_ok (fun e => (hf _ Y scope l yb (co.gen s) e).2) ifs, fun Y yb s => (hf _ Y scope l yb (co.gen s) elt).1⟩
          have hi := srcT_ok (T := T) xb (fun e => (ro X sc _ xb co e).1) tg iter
          have hs := gnFold_ok hit X.env
          split
          · rename_i eat he
            unfold eaterOf at he
            by_cases e1 : x = "any"
            · rw [if_pos e1] at he
              subst e1
              cases he
              exact se_anyG xb TB hcode hP (glS_gl xb.sr hg) (xb.mgb _ (by decide)) ok hi hs go
            rw [if_neg e1] at he
            by_cases e2 : x = "all"
            · rw [if_pos e2] at he
              subst e2
              cases he
              exact se_allG xb TB hcode hP (glS_gl xb.sr hg) (xb.mgb _ (by decide)) ok hi hs (by decide +kernel) go
            rw [if_neg e2] at he
            by_cases e3 : x = "sum"
            · rw [if_pos e3] at he
              subst e3
              cases he
              exact se_sumG xb TB hcode hP (glS_gl xb.sr hg) (xb.mgb _ (by decide)) ok hi hs (by decide +kernel) go
            rw [if_neg e3] at he
            by_cases e4 : x = "tuple"
            · rw [if_pos e4] at he
              subst e4
              cases he
              exact se_tupG xb TB hcode hP (glS_gl xb.sr hg) (xb.mgb _ (by decide)) ok hi hs boot_tuple go
            rw [if_neg e4] at he
            cases he
          · exact se_no
        · exact se_no
      · exact se_no
    · exact se_no
theorem stepF_ok (ro : RecOk C N T call gd r) (hgr : ∀ f, gr = some f → gd = true ∧ ∀ N', RecOk C N' T call false (f N')) (xb : XB C N sc lv X) (co : CallsOk C T call lv gd X) (e : Expr) : SE T X e (stepF C N call lf r gr sc e) := by
  unfold stepF
  split
  · exact call2_ok xb (fun e => (ro X sc lv xb co e).1) (stepE_ok ro xb co _)
  · exact genR_ok ro hgr xb co
  · exact stepE_ok ro xb co _
theorem st_cmp {a b : Expr} {op : CmpOp} {pos : Pos} {fa fb : EV} (xb : XB C N sc lv X) (hs : notSet b = true) (ha : SE T X a fa) (hb : SE T X b fb) : ST T X (.Compare a [op] [b] pos) (cmpB (bind2 (cmpD op) fa fb)) :=
  PT.weak (pt_cmpR (opR_of (does_cmp (T := T) xb.room op)) ha hb (behind_of hs)) fun σ H Q ⟨φ, σD, S, b, S', R, L, e, q⟩ => by
    unfold cmpB at e
    split at e
    · rename_i k S1 e1
      cases e
      exact tE_two (does_rG) ⟨φ, σD, S, _, S', R, L, e1, fun v H' ⟨φ', h1, k1, R1, r1⟩ => ⟨_, r1.bl_inv, q _ _ ⟨φ', h1, k1, R1, rfl⟩⟩⟩
    · cases e
theorem stepT_ok (ro : RecOk C N T call gd r) (xb : XB C N sc lv X) (co : CallsOk C T call lv gd X) (e : Expr) : ST T X e (stepT r sc e) := by
  have h := fun e => (ro X sc lv xb co e).1
  have ht := fun e => (ro X sc lv xb co e).2
  unfold stepT
  split
  · exact st_not (ht _)
  · exact (ands_ok ht _).pt
  · exact (ors_ok ht _).pt
  · split
    · rename_i hs
      exact st_cmp xb hs (h _) (h _)
    · exact st_no
  · exact st_no
  · exact st_no
  · rename_i e0 h1 h2 h3 h4 h5 h6
    refine st_val (h _) fun whole => ?_
    cases e <;> try rfl
    case BoolOp op es p =>
      cases op
      · exact absurd rfl (h2 _ _)
      · exact absurd rfl (h3 _ _)
    case UnaryOp op a p =>
      cases op <;> try rfl
      exact absurd rfl (h1 _ _)
    case Compare a ops bs p => exact absurd rfl (h5 _ _ _ _)
    case IfExp a b c p => exact absurd rfl (h6 _ _ _ _)
theorem evl_ok : ∀ (n : Nat) (gd : Bool) (N : List Str), RecOk C N T call gd (evl C call lf n gd N)
  | 0, gd, N => fun X sc lv xb co e => ⟨se_no, st_no⟩
  | n + 1, gd, N => fun X sc lv xb co e => ⟨stepF_ok (evl_ok n gd N) (fun f hf => by
      cases gd with
      | false => cases hf
      | true =>
        cases hf
        exact ⟨rfl, fun N' => evl_ok n false N'⟩) xb co e, stepT_ok (evl_ok n gd N) xb co e⟩
end
end RF

end

/-! ## RZ -/
section
set_option maxRecDepth 100000
/-! The evaluator of statements, and that it is right. -/
namespace RF
open PySem PySem.Spec PyProof.Rows L2

def notComp : Expr → Bool
  | .ListComp .. => false
  | .SetComp .. => false
  | .DictComp .. => false
  | _ => true
theorem swaps_not {e : Expr} {tg : Option Expr} {l : Nat} {env : Env} (h : notComp e = true) : swapsWith e tg l env = pure false := by
  cases e <;> first | rfl | cases h
/-- a local name as the text tells -/
def isLoc (sc : Scope) (x : Str) : Bool := match sc.names.lookup x with
  | some .local => true
  | _ => false
def isCell (sc : Scope) (x : Str) : Bool := match sc.names.lookup x with
  | some .cell => true
  | _ => false
theorem isLoc_at {sc sc' : Scope} {x : Str} (r : ScRel sc sc') (h : isLoc sc x = true) : sc'.names.lookup x = some .local := by
  unfold isLoc at h
  split at h
  · rename_i e; exact (r x _ e).1 (by decide)
  · cases h
theorem isCell_at {sc sc' : Scope} {x : Str} (r : ScRel sc sc') (h : isCell sc x = true) : sc'.names.lookup x = some .cell := by
  unfold isCell at h
  split at h
  · rename_i e; exact (r x _ e).1 (by decide)
  · cases h
def nameHides (scope : Scope) (y : Str) : Bool := scope.names.any fun (n, k) => n == y && (k == .local || k == .cell)
section
variable (C : Cfg) (N : List Str) (lf : Nat) (r : Rec)
def asgTo (f : EV) (x : Str) (sc : Scope) : SV := match ixOf N x with
  | some i => if locS sc x = true then asgV f (setV i) else noS
  | none => noS
/-- y = [..] or {..}: both ways of storing do the same -/
def asgC (sc : Scope) (y : Str) (py pos : Pos) (scope : Scope) (f : EV) : SV :=
  if isLoc sc y = true then if (py.line == pos.line) = true then if nameHides scope y = false then asgTo N f y sc else noS else noS
  else if isCell sc y = true then asgTo N f y sc else noS
def allFold (vs : List Expr) : Bool := vs.all (foldedForSure 8)
def allConst (vs : List Expr) : Bool := vs.all (constantsAlone 8)
def par2R (sc : Scope) (x y : Str) (px py : Pos) (a b : Expr) (whole : SV) : SV :=
  if isLoc sc x = true ∧ isLoc sc y = true then
    if (px.line == py.line) = true ∧ x ≠ y ∧ noStar [a, b] = true ∧ allFold [a, b] = false ∧ allConst [a, b] = false then match ixOf N x, ixOf N y with
      | some i, some j => if i ≠ j then parV i j (argsA r sc [a, b]) else noS
      | _, _ => noS
    else noS
  else if isCell sc x = true ∨ isCell sc y = true then whole else noS
def par3R (sc : Scope) (x y z : Str) (px py pz : Pos) (a b c : Expr) (whole : SV) : SV :=
  if isLoc sc x = true ∧ isLoc sc y = true ∧ isLoc sc z = true then
    if (px.line == py.line) = true ∧ (px.line == pz.line) = true ∧ x ≠ y ∧ x ≠ z ∧ y ≠ z ∧ noStar [a, b, c] = true ∧ allFold [a, b, c] = false ∧ allConst [a, b, c] = false then match ixOf N x, ixOf N y, ixOf N z with
      | some i, some j, some l => if i ≠ j ∧ i ≠ l ∧ j ≠ l then par3V i j l (argsA r sc [a, b, c]) else noS
      | _, _, _ => noS
    else noS
  else if isCell sc x = true ∨ isCell sc y = true ∨ isCell sc z = true then whole else noS
def tgF (sc : Scope) (tg : Expr) : GV := tgW N sc (List.range N.length) 3 tg
def asgR (sc : Scope) (tg e : Expr) : SV := match tg, e with
  | .Name y py, .ListComp elt [⟨t, iter, ifs, 0⟩] scope pos => if blkC N sc scope (ownOf N scope) = true then asgC N sc y py pos scope (lcR N lf r sc elt t iter ifs scope) else noS
  | .Name y py, .DictComp kx vx [⟨t, iter, ifs, 0⟩] scope pos => if blkC N sc scope (ownOf N scope) = true then asgC N sc y py pos scope (dcR N lf r sc kx vx t iter ifs scope) else noS
  | .Name y _, e => if notComp e = true then asgTo N (r.e sc e) y sc else noS
  | .Tuple [.Name x px, .Name y py] k p, .Tuple [a, b] k2 p2 => par2R N r sc x y px py a b (asgV (r.e sc (.Tuple [a, b] k2 p2)) (tgF N sc (.Tuple [.Name x px, .Name y py] k p)))
  | .Tuple [.Name x px, .Name y py, .Name z pz] k p, .Tuple [a, b, c] k2 p2 => par3R N r sc x y z px py pz a b c (asgV (r.e sc (.Tuple [a, b, c] k2 p2)) (tgF N sc (.Tuple [.Name x px, .Name y py, .Name z pz] k p)))
  | .Tuple _ _ _, .Tuple _ _ _ => noS
  | .Tuple ts k p, e => asgV (r.e sc e) (tgF N sc (.Tuple ts k p))
  | .Subscript o i _, e => if notSlice i = true then asgV (r.e sc e) (subV (r.e sc o) (r.e sc i)) else noS
  | _, _ => noS
def stepS (sc : Scope) (bs : List Stmt → SV) : Stmt → SV
  | .Pass _ => passV
  | .Break _ => breakV
  | .Continue _ => contV
  | .Return none _ => retNV
  | .Return (some e) _ => retV (r.e sc e)
  | .Expr e _ => if notComp e = true then dropV (r.e sc e) else noS
  | .Assign [tg] e _ => asgR N lf r sc tg e
  | .AugAssign (.Name x _) op e _ => match ixOf N x with
    | some i => if locS sc x = true then augV i op (r.e sc e) else noS
    | none => noS
  | .Delete [.Subscript o i _] _ => delV (r.e sc o) (r.e sc i)
  | .If t a b _ => ifV (r.t sc t) (bs a) (bs b)
  | .While t b [] _ => whileV (r.t sc t) (bs b) lf
  | .For tg iter b [] _ => forIV (srcT r sc tg iter) (tgF N sc tg) (bs b) lf
  | _ => noS
def blk (st : Stmt → SV) : List Stmt → SV
  | [] => passV
  | s :: ss => seqV (st s) (blk st ss)
def evS (sc : Scope) : Nat → Stmt → SV
  | 0 => fun _ => noS
  | n + 1 => stepS N lf r sc (blk (evS sc n))
end
section
variable {C : Cfg} {N : List Str} {T : List Addr} {call : CallV} {lf : Nat} {r : Rec} {X : Cx} {sc : Scope} {lv : Nat} {gd : Bool}
theorem ixOf_lt : ∀ {N : List Str} {x : Str} {i : Nat}, ixOf N x = some i → i < N.length := fun h => (List.getElem?_eq_some_iff.mp (ixOf_get h)).1
theorem tgF_ok (xb : XB C N sc lv X) (tg : Expr) : SG T X tg (tgF N sc tg) := (tgW_ok xb _ 3 tg).sg
theorem asgTo_ok (xb : XB C N sc lv X) {f : EV} {e : Expr} {y : Str} {py pos : Pos} (he : SE T X e f) (hs : swapsWith e (some (.Name y py)) pos.line X.env = pure false) : SS T X (.Assign [.Name y py] e pos) (asgTo N f y sc) := by
  unfold asgTo
  split
  · rename_i i hi
    split
    · rename_i hl
      exact ss_asg he (sg_name xb hi hl) hs rfl rfl
    · exact ss_no
  · exact ss_no
theorem sub_asg {o i : Expr} {pos : Pos} {env : Env} (h : notSlice i = true) (v : Value) : assign (.Subscript o i pos) env v = (do
      let ov ← holding [v] (eval o env)
      let iv ← holding [v, ov] (eval i env)
      standAt pos
      holding [v, ov, iv] (setItem ov iv v)
      release [v, ov, iv] []) := by
  cases i <;> first | rfl | cases h
theorem kind_block {env : Env} (hk : env.scope.kind = .function) : env.blockKind = .function := by unfold Env.blockKind; rw [hk]; rfl
theorem swaps_cell {e : Expr} {y : Str} {py : Pos} {l : Nat} {env : Env} (h : env.scope.names.lookup y = some .cell) : swapsWith e (some (.Name y py)) l env = pure false := by
  have ky : env.kindOf y = some .cell := h
  cases e <;> try rfl
  all_goals
    have e : ((some NameKind.cell : Option NameKind) == some NameKind.local) = false := rfl
    unfold swapsWith
    simp only [ky, e, Bool.and_false, Bool.false_and]
theorem noStar_star {vs : List Expr} (h : noStar vs = true) : (vs.any fun | .Starred .. => true | _ => false) = false := by
  induction vs with
  | nil => rfl
  | cons e es ih =>
    obtain ⟨h1, h2⟩ := noStar_cons h
    rw [List.any_cons, ih h2]
    cases e <;> first | rfl | cases h1
theorem swap2 {x y : Str} {px py pt : Pos} {kt k2 : Nat} {pt2 : Pos} {a b : Expr} {env : Env} (hk : env.scope.kind = .function) (hx : env.scope.names.lookup x = some .local) (hy : env.scope.names.lookup y = some .local) (hl : (px.line == py.line) = true) (hne : x ≠ y) (hs : noStar [a, b] = true) (hf : allFold [a, b] = false) (hc : allConst [a, b] = false) :
    swappedStores [.Tuple [.Name x px, .Name y py] kt pt] (.Tuple [a, b] k2 pt2) env = pure (some [x, y]) := by
  have kx : env.kindOf x = some .local := hx
  have ky : env.kindOf y = some .local := hy
  have hst := noStar_star hs
  simp only [List.any_cons, List.any_nil, Bool.or_false, Bool.or_eq_false_iff] at hst
  unfold allFold at hf
  unfold allConst at hc
  have hl' : py.line = px.line := by rw [beq_iff_eq] at hl; exact hl.symm
  unfold swappedStores
  simp only [List.length_cons, List.length_nil, kind_block hk]
  simp only [hf, hc]
  simp [List.filterMap_cons, kx, ky, hl', List.eraseDups_cons, hne, Ne.symm hne, Expr.pos]
  obtain ⟨h1, h2⟩ := noStar_cons hs
  obtain ⟨h3, _⟩ := noStar_cons h2
  rintro (h | h)
  · cases a <;> first | exact Bool.noConfusion h | exact Bool.noConfusion h1
  · cases b <;> first | exact Bool.noConfusion h | exact Bool.noConfusion h3
theorem swap3 {x y z : Str} {px py pz pt : Pos} {kt k2 : Nat} {pt2 : Pos} {a b c : Expr} {env : Env} (hk : env.scope.kind = .function) (hx : env.scope.names.lookup x = some .local) (hy : env.scope.names.lookup y = some .local) (hz : env.scope.names.lookup z = some .local) (hl : (px.line == py.line) = true) (hl2 : (px.line == pz.line) = true) (hne : x ≠ y) (hne2 : x ≠ z) (hne3 : y ≠ z)
    (hs : noStar [a, b, c] = true) (hf : allFold [a, b, c] = false) (hc : allConst [a, b, c] = false) :
    swappedStores [.Tuple [.Name x px, .Name y py, .Name z pz] kt pt] (.Tuple [a, b, c] k2 pt2) env = pure (some [x, y, z]) := by
  have kx : env.kindOf x = some .local := hx
  have ky : env.kindOf y = some .local := hy
  have kz : env.kindOf z = some .local := hz
  have hst := noStar_star hs
  simp only [List.any_cons, List.any_nil, Bool.or_false, Bool.or_eq_false_iff] at hst
  unfold allFold at hf
  unfold allConst at hc
  have hl' : py.line = px.line := by rw [beq_iff_eq] at hl; exact hl.symm
  have hl2' : pz.line = px.line := by rw [beq_iff_eq] at hl2; exact hl2.symm
  unfold swappedStores
  simp only [List.length_cons, List.length_nil, kind_block hk]
  simp only [hf, hc]
  simp [List.filterMap_cons, kx, ky, kz, hl', hl2', List.eraseDups_cons, hne, Ne.symm hne, hne2, Ne.symm hne2, hne3, Ne.symm hne3, Expr.pos]
  obtain ⟨h1, h2⟩ := noStar_cons hs
  obtain ⟨h3, h4⟩ := noStar_cons h2
  obtain ⟨h5, _⟩ := noStar_cons h4
  rintro (h | h | h)
  · cases a <;> first | exact Bool.noConfusion h | exact Bool.noConfusion h1
  · cases b <;> first | exact Bool.noConfusion h | exact Bool.noConfusion h3
  · cases c <;> first | exact Bool.noConfusion h | exact Bool.noConfusion h5
/-- one of the names is captured: stored as any target -/
theorem noswap2 {x y : Str} {px py pt : Pos} {kt k2 : Nat} {pt2 : Pos} {a b : Expr} {env : Env} (hk : env.scope.kind = .function) (h : env.scope.names.lookup x = some .cell ∨ env.scope.names.lookup y = some .cell) :
    swappedStores [.Tuple [.Name x px, .Name y py] kt pt] (.Tuple [a, b] k2 pt2) env = pure none := by
  have h' : env.kindOf x = some .cell ∨ env.kindOf y = some .cell := h
  unfold swappedStores
  simp only [List.length_cons, List.length_nil, kind_block hk]
  rcases h' with h' | h'
  · simp [List.filterMap_cons, h', Expr.pos]
    intro _ _ h1
    exfalso
    by_cases c : env.kindOf y = some NameKind.local ∧ py.line = px.line <;> simp [c] at h1
  · simp [List.filterMap_cons, h', Expr.pos]
    intro _ _ h1
    exfalso
    by_cases c : env.kindOf x = some NameKind.local <;> simp [c] at h1
theorem noswap3 {x y z : Str} {px py pz pt : Pos} {kt k2 : Nat} {pt2 : Pos} {a b c : Expr} {env : Env} (hk : env.scope.kind = .function) (h : env.scope.names.lookup x = some .cell ∨ env.scope.names.lookup y = some .cell ∨ env.scope.names.lookup z = some .cell) :
    swappedStores [.Tuple [.Name x px, .Name y py, .Name z pz] kt pt] (.Tuple [a, b, c] k2 pt2) env = pure none := by
  have h' : env.kindOf x = some .cell ∨ env.kindOf y = some .cell ∨ env.kindOf z = some .cell := h
  unfold swappedStores
  simp only [List.length_cons, List.length_nil, kind_block hk]
  rcases h' with h' | h' | h'
  · simp [List.filterMap_cons, h', Expr.pos]
    intro _ _ _ h1
    exfalso
    by_cases c1 : env.kindOf y = some NameKind.local ∧ py.line = px.line <;> by_cases c2 : env.kindOf z = some NameKind.local ∧ pz.line = px.line <;> simp [c1, c2] at h1
  · simp [List.filterMap_cons, h', Expr.pos]
    intro _ _ _ h1
    exfalso
    by_cases c1 : env.kindOf x = some NameKind.local <;> by_cases c2 : env.kindOf z = some NameKind.local ∧ pz.line = px.line <;> simp [c1, c2] at h1
  · simp [List.filterMap_cons, h', Expr.pos]
    intro _ _ _ h1
    exfalso
    by_cases c1 : env.kindOf x = some NameKind.local <;> by_cases c2 : env.kindOf y = some NameKind.local ∧ py.line = px.line <;> simp [c1, c2] at h1
theorem ss_par3 {i j l : Nat} {x y z : Str} {a b c : Expr} {fa : AV} {px py pz pt pos : Pos} {kt k2 : Nat} {pt2 : Pos} (xb : XB C N sc lv X) (hi : ixOf N x = some i) (hj : ixOf N y = some j) (hl : ixOf N z = some l) (hij : i ≠ j) (hil : i ≠ l) (hjl : j ≠ l)
    (hx : X.env.scope.names.lookup x = some .local) (hy : X.env.scope.names.lookup y = some .local) (hz : X.env.scope.names.lookup z = some .local) (ha : SA T X [a, b, c] fa)
    (hw : swappedStores [.Tuple [.Name x px, .Name y py, .Name z pz] kt pt] (.Tuple [a, b, c] k2 pt2) X.env = pure (some [x, y, z])) :
    SS T X (.Assign [.Tuple [.Name x px, .Name y py, .Name z pz] kt pt] (.Tuple [a, b, c] k2 pt2) pos) (par3V i j l fa) :=
  PS.weak (ps_par3 xb.calm xb.nd (by rw [xb.hN]; exact ixOf_get hi) (by rw [xb.hN]; exact ixOf_get hj) (by rw [xb.hN]; exact ixOf_get hl) hij hil hjl hx hy hz ha hw) fun De σ H ⟨φ, σD, S, r, σD', S', R, L, e, o⟩ => by
    unfold par3V at e
    split at e
    · rename_i d1 d2 d3 S1 e1
      cases e
      refine ⟨φ, σD, S, _, S', R, L, e1, fun vs H1 ⟨φ1, g1, k1, R1, r1⟩ => ?_⟩
      cases r1 with
      | cons q1 t1 => cases t1 with
        | cons q2 t2 => cases t2 with
          | cons q3 t3 =>
            cases t3
            exact ⟨_, _, _, rfl, o φ1 _ H1 g1 k1 R1 ((((L.mono g1 k1).set i q1).set j q2).set l q3)⟩
    · cases e
theorem ixOf_inj : ∀ {N : List Str} {x y : Str} {i : Nat}, ixOf N x = some i → ixOf N y = some i → x = y := fun h1 h2 => by
  have a := ixOf_get h1
  have b := ixOf_get h2
  rw [a] at b
  exact Option.some.inj b
theorem asgC_ok (xb : XB C N sc lv X) {f : EV} {e : Expr} {y : Str} {py pos spos : Pos} {scope : Scope} (hset : ∀ i, ixOf N y = some i → X.env.scope.names.lookup y = some .local → (py.line == pos.line) = true → nameHides scope y = false → SS T X (.Assign [.Name y py] e spos) (asgV f (setV i))) (he : SE T X e f) :
    SS T X (.Assign [.Name y py] e spos) (asgC N sc y py pos scope f) := by
  unfold asgC
  split
  · rename_i hl
    split
    · rename_i hline
      split
      · rename_i hh
        unfold asgTo
        split
        · rename_i i hi
          split
          · exact hset i hi (isLoc_at xb.sr hl) hline hh
          · exact ss_no
        · exact ss_no
      · exact ss_no
    · exact ss_no
  · split
    · rename_i hcell
      exact asgTo_ok xb he (swaps_cell (isCell_at xb.sr hcell))
    · exact ss_no
theorem lcR_some {elt tg iter : Expr} {ifs : List Expr} {scope : Scope} (hb : blkC N sc scope (ownOf N scope) = true) : lcR N lf r sc elt tg iter ifs scope = lcE (srcT r sc tg iter) (tgW N scope ((ownOf N scope).map (·.2)) 3 tg) (testsR r scope ifs) (r.e scope elt) ((ownOf N scope).map (·.2)) lf := if_pos hb
theorem dcR_some {kx vx tg iter : Expr} {ifs : List Expr} {scope : Scope} (hb : blkC N sc scope (ownOf N scope) = true) : dcR N lf r sc kx vx tg iter ifs scope = dcE (srcT r sc tg iter) (tgW N scope ((ownOf N scope).map (·.2)) 3 tg) (testsR r scope ifs) (r.e scope kx) (r.e scope vx) ((ownOf N scope).map (·.2)) lf := if_pos hb
theorem ss_asg_no {st : Stmt} {f : EV} {i : Nat} (h : ∀ σ S, f σ S = none) : SS T X st (asgV f (setV i)) :=
  PS.weak (t := fun _ _ _ => False) ⟨fun _ _ _ _ _ _ h => h.elim⟩ fun De σ H ⟨φ, σD, S, r, σD', S', R, L, e, o⟩ => by
    unfold asgV at e
    rw [h] at e
    cases e
end
end RF

end

/-! ## SA -/
section
set_option maxRecDepth 100000
/-! The evaluator of statements is right. -/
namespace RF
open PySem PySem.Spec PyProof.Rows L2

section
variable {C : Cfg} {N : List Str} {T : List Addr} {call : CallV} {lf : Nat} {r : Rec} {X : Cx} {sc : Scope} {lv : Nat} {gd : Bool}
theorem asgR_ok (ro : RecOk C N T call gd r) (xb : XB C N sc lv X) (co : CallsOk C T call lv gd X) (hk : X.env.scope.kind = .function) (tg e : Expr) (pos : Pos) : SS T X (.Assign [tg] e pos) (asgR N lf r sc tg e) := by
  have h := fun e => (ro X sc lv xb co e).1
  unfold asgR
  split
  · rename_i y py elt t iter ifs scope p
    split
    · rename_i hb
      refine asgC_ok xb (fun i hi hl hline hh => ?_) (lcR_ok ro xb co)
      rw [lcR_some hb]
      cases hs : notSet iter with
      | true => exact ss_setLc lf xb hi hl hk hline hh (srcT_ok xb h t iter) hb (fun Y yb _ => tgW_ok yb _ 3 t) (fun Y yb s => tests_ok (fun e => (ro Y scope lv yb (co.same s) e).2) ifs) (fun Y yb s => (ro Y scope lv yb (co.same s) elt).1) (fold_ok hs)
      | false =>
        rw [srcT_set hs]
        exact ss_asg_no lcE_no
    · exact ss_no
  · rename_i y py kx vx t iter ifs scope p
    split
    · rename_i hb
      refine asgC_ok xb (fun i hi hl hline hh => ?_) (dcR_ok ro xb co)
      rw [dcR_some hb]
      cases hs : notSet iter with
      | true => exact ss_setDc lf xb hi hl hk hline hh (srcT_ok xb h t iter) hb (fun Y yb _ => tgW_ok yb _ 3 t) (fun Y yb s => tests_ok (fun e => (ro Y scope lv yb (co.same s) e).2) ifs) (fun Y yb s => (ro Y scope lv yb (co.same s) kx).1) (fun Y yb s => (ro Y scope lv yb (co.same s) vx).1) (fold_ok hs)
      | false =>
        rw [srcT_set hs]
        exact ss_asg_no dcE_no
    · exact ss_no
  · split
    · rename_i hn
      exact asgTo_ok xb (h _) (swaps_not hn)
    · exact ss_no
  · rename_i x px y py k p a b k2 p2
    unfold par2R
    split
    · rename_i hl
      split
      · rename_i hc
        obtain ⟨c1, c2, c3, c4, c5⟩ := hc
        split
        · rename_i i j hi hj
          split
          · rename_i hij
            exact ss_par xb hi hj hij (isLoc_at xb.sr hl.1) (isLoc_at xb.sr hl.2) (args_ok h _) (swap2 hk (isLoc_at xb.sr hl.1) (isLoc_at xb.sr hl.2) c1 c2 c3 c4 c5)
          · exact ss_no
        · exact ss_no
      · exact ss_no
    · split
      · rename_i hc
        exact ss_asg (h _) (tgF_ok xb _) rfl (noswap2 hk (hc.imp (isCell_at xb.sr) (isCell_at xb.sr))) rfl
      · exact ss_no
  · rename_i x px y py z pz k p a b c k2 p2
    unfold par3R
    split
    · rename_i hl
      split
      · rename_i hc
        obtain ⟨c1, c2, c3, c4, c5, c6, c7, c8⟩ := hc
        split
        · rename_i i j l hi hj hl'
          split
          · rename_i hij
            exact ss_par3 xb hi hj hl' hij.1 hij.2.1 hij.2.2 (isLoc_at xb.sr hl.1) (isLoc_at xb.sr hl.2.1) (isLoc_at xb.sr hl.2.2) (args_ok h _) (swap3 hk (isLoc_at xb.sr hl.1) (isLoc_at xb.sr hl.2.1) (isLoc_at xb.sr hl.2.2) c1 c2 c3 c4 c5 c6 c7 c8)
          · exact ss_no
        · exact ss_no
      · exact ss_no
    · split
      · rename_i hc
        exact ss_asg (h _) (tgF_ok xb _) rfl (noswap3 hk (hc.imp (isCell_at xb.sr) (Or.imp (isCell_at xb.sr) (isCell_at xb.sr)))) rfl
      · exact ss_no
  · exact ss_no
  · rename_i ts k p _ _ _ hn
    refine ss_asg (h _) (tgF_ok xb _) ?_ ?_ rfl
    · cases e <;> rfl
    · cases e <;> first | rfl | exact absurd rfl (hn _ _ _)
  · split
    · rename_i hn
      refine ss_asg (h _) (sg_sub xb.room (h _) (h _) (sub_asg hn)) ?_ ?_ rfl
      · cases e <;> rfl
      · cases e <;> rfl
    · exact ss_no
  · exact ss_no
theorem forI_no {g : GV} {f : SV} {n : Nat} (σ : Slots) (S : Store) : forIV noI g f n σ S = none := rfl
theorem ss_fail {st : Stmt} {f : SV} (h : ∀ σ S, f σ S = none) : SS T X st f :=
  PS.weak (t := fun _ _ _ => False) ⟨fun _ _ _ _ _ _ h => h.elim⟩ fun De σ H ⟨φ, σD, S, r, σD', S', R, L, e, o⟩ => by
    rw [h] at e
    cases e
theorem stepS_ok (ro : RecOk C N T call gd r) (xb : XB C N sc lv X) (co : CallsOk C T call lv gd X) (hk : X.env.scope.kind = .function) {bs : List Stmt → SV} (hb : ∀ b, SSs T X b (bs b)) (st : Stmt) : SS T X st (stepS N lf r sc bs st) := by
  have h := fun e => (ro X sc lv xb co e).1
  have ht := fun e => (ro X sc lv xb co e).2
  have hp : PassesOwn (model X.prog X.w) X.A X.env X.xe := by rw [xb.xe]; exact PassesOwn.never
  unfold stepS
  split
  · exact ss_pass
  · exact ss_break
  · exact ss_cont
  · exact ss_retN
  · exact ss_ret (h _)
  · split
    · rename_i hn
      exact ss_expr (h _) (swaps_not hn)
    · exact ss_no
  · exact asgR_ok ro xb co hk _ _ _
  · split
    · rename_i i hi
      split
      · rename_i hl
        exact ss_aug xb hi hl (h _)
      · exact ss_no
    · exact ss_no
  · exact ss_del xb.room (h _) (h _)
  · exact ss_if (ht _) (hb _) (hb _)
  · exact ss_while lf hp (ht _) (hb _)
  · rename_i tg iter b pos
    cases hs : notSet iter with
    | true => exact ss_for lf hp xb.calm (srcT_ok xb h tg iter) (tgF_ok xb tg) (hb _) (fold_ok hs)
    | false =>
      rw [srcT_set hs]
      exact ss_fail forI_no
  · exact ss_no
theorem blk_ok2 {f : Stmt → SV} (h : ∀ st, SS T X st (f st)) : ∀ b : List Stmt, SSs T X b (blk f b)
  | [] => sss_nil
  | s :: ss => sss_cons (h s) (blk_ok2 h ss)
theorem evS_ok (ro : RecOk C N T call gd r) (xb : XB C N sc lv X) (co : CallsOk C T call lv gd X) (hk : X.env.scope.kind = .function) : ∀ (n : Nat) (st : Stmt), SS T X st (evS N lf r sc n st)
  | 0, st => ss_no
  | n + 1, st => stepS_ok ro xb co hk (blk_ok2 (evS_ok ro xb co hk n)) st
end
end RF

end

/-! ## SB -/
section
set_option maxRecDepth 100000
/-! The calls of defs. -/
namespace RF
open PySem PySem.Spec PyProof.Rows L2

/-- what stays through the run of the evaluator: how deep it looks into expressions, into statements; how often a loop turns -/
structure Fuel where
  de : Nat
  ds : Nat
  lf : Nat
def startD (N : List Str) (ds : List D) : Slots := ds.map some ++ List.replicate (N.length - ds.length) none
def bodyV (C : Cfg) (F : Fuel) (call : CallV) (fn : Fn) : SV := blk (evS fn.names F.lf (evl C call F.lf F.de true fn.names) (C8.fnScope fn.st) F.ds) (C8.fnBody fn.st)
def runF (C : Cfg) (F : Fuel) (call : CallV) (fn : Fn) : GC := fun ds S => if ds.length = fn.params.length then match bodyV C F call fn (startD fn.names ds) S with
  | some (.ret d, _, S') => some (d, S')
  | some (.nx, _, S') => some (.non, S')
  | _ => none
  else none
def callF (C : Cfg) (F : Fuel) : Nat → CallV
  | 0 => fun _ _ _ => none
  | k + 1 => fun x => match C.fns.find? fun f => f.name = x with
    | some fn => runF C F (callF C F k) fn
    | none => fun _ _ => none
/-- the constants stand in the module -/
def ConstsOk (K : PySem.W.Frag) (mg : Str → Option Value) (C : Cfg) : Prop := ∀ x d, C.consts.lookup x = some d → ∃ v u, mg x = some u ∧ RelV v u ∧ ∀ φ H, Rep K φ H v d
/-- a def by its text, its code object known -/
structure FunC (K : PySem.W.Frag) (fn : Fn) (f : Addr) (fd : FuncData) (cdv : Value) : Prop where
  ex : ∃ (oc : Value) (od : Option Addr) (kV doc pm : Value) (an : Option Addr) (ct : Value) (osl : Array (Option Value)),
    fd = PySem.W.fnOf fn.name fn.name (C8.fnArgs fn.st) (C8.fnBody fn.st) (C8.fnScope fn.st) .none kV doc pm an cdv ct ∧ K.lookup f = some ⟨oc, od, .func fd, osl⟩ ∧ PySem.W.codeIn K cdv fn.name = true
/-- the defs stand in the module; cs: the code objects and their tables -/
structure FnAt (K : PySem.W.Frag) (mg : Str → Option Value) (cs : List (Addr × Addr)) (fn : Fn) : Prop where
  ex : ∃ (f : Addr) (fd : FuncData) (cdv : Value), FunC K fn f fd cdv ∧ mg fn.name = some (.ref f) ∧ PySem.W.keepIn K (.ref f) = true ∧ Binds K fd fn.params [] ∧ ∃ c P, cdv = .ref c ∧ (c, P) ∈ cs
/-- what holds of the module -/
structure ModOk (K : PySem.W.Frag) (mg : Str → Option Value) (cs : List (Addr × Addr)) (C : Cfg) : Prop where
  fns : ∀ fn ∈ C.fns, FnAt K mg cs fn ∧ C8.scC fn.names fn.params (C8.fnScope fn.st) = true
  consts : ConstsOk K mg C
  blt : ∀ x ∈ bltnNames, mg x = none
theorem start_rel {K : PySem.W.Frag} {φ : List Addr} {H : Hp} {N : List Str} {vs : List V} {ds : List D} (r : Reps K φ H vs ds) : SlotRel K φ H (startD N ds) (L2.start N vs) := by
  have hl := r.length
  refine ⟨?_, fun i d h => ?_⟩
  · unfold startD L2.start
    simp only [List.length_append, List.length_map, List.length_replicate, hl]
  · unfold startD at h
    unfold L2.start
    by_cases hi : i < ds.length
    · rw [List.getElem?_append_left (by simpa using hi), List.getElem?_map] at h
      cases e : ds[i]? with
      | none => rw [e] at h; cases h
      | some d' =>
        rw [e] at h
        cases h
        obtain ⟨x, hx, rx⟩ := r.get' e
        refine ⟨x, ?_, rx⟩
        rw [List.getElem?_append_left (by simpa [hl] using hi), List.getElem?_map, hx]
        rfl
    · rw [List.getElem?_append_right (by simpa using hi)] at h
      have := List.mem_of_getElem? h
      rw [List.mem_replicate] at this
      cases this.2
theorem sr_refl (sc : Scope) : ScRel sc sc := fun x k h => ⟨fun _ => h, fun e => by subst e; exact .inl h⟩
section
variable {P : Program} {w : World} {K : PySem.W.Frag} {mg : Str → Option Value} {base : Heap} {C : Cfg} {cs : List (Addr × Addr)} {F : Fuel}
theorem fn0C {fn : Fn} {f : Addr} {fd : FuncData} {cdv : Value} {N ps : List Str} {k : Nat} {sp : Sp} (Fc : FunC K fn f fd cdv) (S : FnScope N ps (C8.fnScope fn.st)) (len : ∀ vs H Q E, sp vs H Q E → vs.length = ps.length)
    (hbody : ∀ (A : Around) (outer : List Env) (s : Shared) (H : Hp) (vs : List V) (Q : VK) (E : XK), Room k (A.deeper (envOfC fn.name (C8.fnScope fn.st) s.heap.objs.size f cdv)) → sp vs H Q E →
      ∃ t, PSs (cxOf C8.CX0 P w K mg base N fn.name (C8.fnScope fn.st) f cdv A outer s H E).nox (C8.fnBody fn.st) t ∧ t { nx := fun _ H' => Q .non H', rt := Q } (L2.start N vs) H) : FnOk P w K mg base C8.CX0 (k + 1) f fd ps sp := by
  obtain ⟨oc, od, kV, doc, pm, an, ct, osl, rfl, lk, hcd⟩ := Fc.ex
  refine fn_of lk hcd S len fun A outer s H vs Q E hr hsp => ?_
  obtain ⟨t, h, q⟩ := hbody A outer s H vs Q E hr hsp
  exact ⟨t, h.nox, q⟩
theorem fn_xb (mo : ModOk K mg cs C) {fn : Fn} (hfn : fn ∈ C.fns) {f : Addr} {cdv : Value} {A : Around} {outer : List Env} {s : Shared} {H : Hp} {E : XK} {k : Nat} (hr : Room k (A.deeper (envOfC fn.name (C8.fnScope fn.st) s.heap.objs.size f cdv))) :
    XB C fn.names (C8.fnScope fn.st) k (cxOf C8.CX0 P w K mg base fn.names fn.name (C8.fnScope fn.st) f cdv A outer s H E).nox where
  hN := rfl
  nd := (C8.fnScope_by (mo.fns fn hfn).2).nd
  calm := rfl
  sr := sr_refl _
  fnok := fun _ _ => rfl
  xe := rfl
  room := hr
  mgc := mo.consts
  mgb := mo.blt
theorem isFn_find {x : Str} (h : isFn C x = true) : ∃ fn ∈ C.fns, fn.name = x ∧ C.fns.find? (fun f => f.name = x) = some fn := by
  unfold isFn at h
  cases e : C.fns.find? (fun f => f.name = x) with
  | none =>
    rw [List.find?_eq_none] at e
    rw [List.any_eq_true] at h
    obtain ⟨fn, h1, h2⟩ := h
    exact absurd h2 (e fn h1)
  | some fn =>
    have h2 := List.find?_some e
    exact ⟨fn, List.mem_of_find?_eq_some e, by simpa using h2, rfl⟩
/-- every def does what the evaluator tells, at every level -/
theorem fns_ok (mo : ModOk K mg cs C) (TB : ∀ p ∈ cs, GxR.TabB base mg p.1 p.2) : ∀ (k : Nat) (fn : Fn), fn ∈ C.fns → C.fns.find? (fun f => f.name = fn.name) = some fn → ∀ (f : Addr) (fd : FuncData) (cdv : Value), FunC K fn f fd cdv → (∃ c P, cdv = .ref c ∧ (c, P) ∈ cs) → FnOk P w K mg base C8.CX0 (2 * k) f fd fn.params (spF ⟨K, cs.map (·.2), P, w⟩ (callF C F k fn.name))
  | 0, fn, hfn, hfi, f, fd, cdv, hF, hcs => by
    refine ⟨fun vs H Q E ⟨φ, S, ds, d, S', R, rr, e, q⟩ => (by cases e), fun A outer s H args us vs Q E hr he hb hv ⟨φ, S, ds, d, S', R, rr, e, q⟩ => (by cases e)⟩
  | k + 1, fn, hfn, hfi, f, fd, cdv, hF, hcs => by
    have key : callF C F (k + 1) fn.name = runF C F (callF C F k) fn := by
      have e0 : callF C F (k + 1) fn.name = (match C.fns.find? fun f => f.name = fn.name with
        | some fn => runF C F (callF C F k) fn
        | none => fun _ _ => none) := rfl
      rw [e0, hfi]
    rw [key]
    refine fn0C (k := 2 * k + 1) hF (C8.fnScope_by (mo.fns fn hfn).2) (fun vs H Q E ⟨φ, S, ds, d, S', R, rr, e, q⟩ => ?_) fun A outer s H vs Q E hr ⟨φ, S, ds, d, S', R, rr, e, q⟩ => ?_
    · unfold runF at e
      split at e
      · rename_i hl
        rw [rr.length, hl]
      · cases e
    · unfold runF at e
      split at e
      · have xb := fn_xb (P := P) (w := w) (base := base) (H := H) (E := E) (outer := outer) mo hfn hr
        have co : CallsOk C (cs.map (·.2)) (callF C F k) (2 * k + 1) true (cxOf C8.CX0 P w K mg base fn.names fn.name (C8.fnScope fn.st) f cdv A outer s H E).nox := ⟨fun x hx => by
          obtain ⟨gn, hgn, hname, hfind⟩ := isFn_find hx
          subst hname
          obtain ⟨a, fd', cdv', hF', hm, hk, hb, hcs'⟩ := (mo.fns gn hgn).1.ex
          exact ⟨a, fd', gn.params, fns_ok mo TB k gn hgn hfind a fd' cdv' hF' hcs', hm, hk, hb⟩, fun _ => by
          obtain ⟨c, P', rfl, hm⟩ := hcs
          exact ⟨Nat.succ_pos _, c, P', rfl, TB _ hm, List.mem_map.mpr ⟨_, hm, rfl⟩⟩⟩
        have body := blk_ok2 (evS_ok (lf := F.lf) (T := cs.map (·.2)) (evl_ok (lf := F.lf) F.de true fn.names) xb co (C8.fnScope_by (mo.fns fn hfn).2).kind F.ds) (C8.fnBody fn.st)
        refine ⟨_, body, ?_⟩
        have hs := start_rel (N := fn.names) rr
        split at e
        · rename_i d' σ' S'' e1
          cases e
          refine ⟨φ, startD fn.names ds, S, .ret d, σ', S', R, hs, e1, fun φ' σ2 H' h1 k1 R1 v rv => ?_⟩
          exact q v H' ⟨φ', h1, k1, R1, rv⟩
        · rename_i σ' S'' e1
          cases e
          refine ⟨φ, startD fn.names ds, S, .nx, σ', S', R, hs, e1, fun φ' σ2 H' h1 k1 R1 _ => ?_⟩
          exact q .non H' ⟨φ', h1, k1, R1, .non⟩
        · cases e
      · cases e
end
end RF

end

/-! ## SC -/
section
set_option maxRecDepth 100000
/-! The end of a proof: from the pure statement of a law to its walk. -/
namespace RF
open PySem PySem.Spec PyProof.Rows L2

/-! ### constants of the module -/
def all2 {α β : Type} (f : α → β → Bool) : List α → List β → Bool
  | [], [] => true
  | a :: as, b :: bs => f a b && all2 f as bs
  | _, _ => false
def seqOf (K : PySem.W.Frag) (a : Addr) : Option (List Value) := match K.lookup a with
  | some ⟨.type t, _, .seq its _, _⟩ => if t = "tuple" then if its.size ≤ sizeLine then some its.toList else none else none
  | _ => none
def repK (K : PySem.W.Frag) : Nat → Value → D → Bool
  | 0, _, _ => false
  | n + 1, u, d => match d with
    | .non => match u with
      | .none => true
      | _ => false
    | .bl b => match u with
      | .bool c => decide (c = b)
      | _ => false
    | .int i => match u with
      | .int j _ => decide (j = i)
      | _ => false
    | .str x => match u with
      | .str y _ => decide (y = x)
      | _ => false
    | .tup ds => match u with
      | .ref a => match seqOf K a with
        | some its => all2 (repK K n) its ds
        | none => false
      | _ => false
    | .loc _ => false
theorem seqOf_at {K : PySem.W.Frag} {a : Addr} {us : List Value} (h : seqOf K a = some us) : ∃ (o : Obj) (its : Array Value) (n : Nat), K.lookup a = some o ∧ o.cls = .type "tuple" ∧ o.data = .seq its n ∧ its.size ≤ sizeLine ∧ us = its.toList := by
  unfold seqOf at h
  split at h
  · rename_i t dd its m sl hk
    split at h
    · rename_i ht
      split at h
      · rename_i hs
        cases h
        subst ht
        exact ⟨_, its, m, hk, rfl, rfl, hs, rfl⟩
      · cases h
    · cases h
  · cases h
theorem repK_ok {K : PySem.W.Frag} : ∀ (n : Nat) (u : Value) (d : D), repK K n u d = true → ∃ v, RelV v u ∧ ∀ φ H, Rep K φ H v d
  | 0, u, d, h => by cases h
  | n + 1, u, d, h => by
    unfold repK at h
    cases d with
    | non =>
      cases u <;> try cases h
      exact ⟨.non, rfl, fun _ _ => .non⟩
    | bl b =>
      cases u <;> try cases h
      rename_i c
      have := of_decide_eq_true h
      subst this
      exact ⟨.bl c, rfl, fun _ _ => .bl c⟩
    | int i =>
      cases u <;> try cases h
      rename_i j t
      have := of_decide_eq_true h
      subst this
      exact ⟨.int j, ⟨t, rfl⟩, fun _ _ => .int j⟩
    | str x =>
      cases u <;> try cases h
      rename_i y t
      have := of_decide_eq_true h
      subst this
      exact ⟨.str y, ⟨t, rfl⟩, fun _ _ => .str y⟩
    | tup ds =>
      cases u <;> try cases h
      rename_i a
      cases hs : seqOf K a with
      | none =>
        simp only [hs] at h
        cases h
      | some us =>
        simp only [hs] at h
        obtain ⟨o, its, m, h1, h2, h3, h4, rfl⟩ := seqOf_at hs
        have main : ∀ (us : List Value) (ds : List D), all2 (repK K n) us ds = true → ∃ xs, Vals xs us ∧ ∀ φ H, Reps K φ H xs ds := by
          intro us
          induction us with
          | nil =>
            intro ds h
            cases ds with
            | nil => exact ⟨[], .nil, fun _ _ => .nil⟩
            | cons d ds => cases h
          | cons u us ih =>
            intro ds h
            cases ds with
            | nil => cases h
            | cons d ds =>
              simp only [all2, Bool.and_eq_true] at h
              obtain ⟨v, r1, r2⟩ := repK_ok n u d h.1
              obtain ⟨xs, q1, q2⟩ := ih ds h.2
              exact ⟨v :: xs, .cons r1 q1, fun φ H => .cons (r2 φ H) (q2 φ H)⟩
        obtain ⟨xs, q1, q2⟩ := main _ _ h
        exact ⟨.ref a, rfl, fun φ H => .tup (.inr ⟨o, its, m, h1, h2, h3, h4, q1⟩) (q2 φ H)⟩
    | loc k => cases h

/-! ### what the head has left -/
/-- the def stands in the written part: each conjunct is a fact of the kernel -/
structure FnPre (K : PySem.W.Frag) (fn : Fn) : Prop where
  ex : ∃ (f c P : Addr) (oc : Value) (od : Option Addr) (kV doc pm : Value) (an : Option Addr) (ct : Value) (osl : Array (Option Value)) (e : Value) (dd : Option Addr) (vs : Array Value) (sl : Array (Option Value)),
    PySem.W.nsIn K mainGlobals fn.name = some (some (.ref f)) ∧ K.lookup f = some ⟨oc, od, .func (PySem.W.fnOf fn.name fn.name (C8.fnArgs fn.st) (C8.fnBody fn.st) (C8.fnScope fn.st) .none kV doc pm an (.ref c) ct), osl⟩ ∧
    PySem.W.codeIn K (.ref c) fn.name = true ∧ PySem.W.keepIn K (.ref f) = true ∧ K.lookup c = some ⟨e, dd, .fields vs, sl⟩ ∧ vs[11]? = some (.ref P) ∧ K.lookup P = none
/-- the text of the def alone -/
structure FnTxt (fn : Fn) : Prop where
  sc : C8.scC fn.names fn.params (C8.fnScope fn.st) = true
  bnd : ∀ (kV doc pm : Value) (an : Option Addr) (cdv ct : Value) (us : List Value), us.length = fn.params.length → bindArgs (PySem.W.fnOf fn.name fn.name (C8.fnArgs fn.st) (C8.fnBody fn.st) (C8.fnScope fn.st) .none kV doc pm an cdv ct) ⟨us, []⟩ = pure (fn.params.zip us)
def nsNone (K : PySem.W.Frag) (x : Str) : Bool := match PySem.W.nsIn K mainGlobals x with
  | some none => true
  | _ => false
theorem nsNone_eq {K : PySem.W.Frag} {x : Str} (h : nsNone K x = true) : PySem.W.nsIn K mainGlobals x = some none := by
  unfold nsNone at h
  split at h
  · assumption
  · cases h
structure Pre (K : PySem.W.Frag) (C : Cfg) : Prop where
  fns : ∀ fn ∈ C.fns, FnPre K fn
  consts : ∀ p ∈ C.consts, ∃ u, PySem.W.nsIn K mainGlobals p.1 = some (some u) ∧ repK K 8 u p.2 = true
  blt : (bltnNames.all fun x => nsNone K x) = true
theorem lookup_mem {α : Type} : ∀ {l : List (Str × α)} {x : Str} {d : α}, l.lookup x = some d → (x, d) ∈ l
  | (y, e) :: l, x, d, h => by
    rw [List.lookup_cons] at h
    split at h
    · rename_i hb
      cases h
      have : x = y := by simpa using hb
      rw [this]
      exact List.mem_cons_self
    · exact List.mem_cons_of_mem _ (lookup_mem h)
/-- the tables of the defs, in a heap -/
structure TabsAt (K : PySem.W.Frag) (h : Heap) (cs : List (Addr × Addr)) : Prop where
  emp : ∀ p ∈ cs, h.get? p.2 = some { cls := .none, data := .fields #[] }
  out : ∀ p ∈ cs, K.lookup p.2 = none
  code : ∀ p ∈ cs, PySem.W.CodeHd h p.1 p.2
theorem mod_of {K : PySem.W.Frag} {mg : Str → Option Value} {h : Heap} {C : Cfg} {q : Program} (X : K.In h) (G : h.Ns mainGlobals mg) (pre : Pre K C) (txt : ∀ fn ∈ C.fns, FnTxt fn) (hrec : ∀ fn ∈ C.fns, ((recsOf q).any fun e => e.name == fn.name) = true)
    (tab : ∀ d ∈ recsOf q, ∃ a o fd c P, mg d.name = some (.ref a) ∧ h.get? a = some o ∧ o.data = .func fd ∧ fd.code = .ref c ∧ h.IsCode c P #[] ∧ h.TableAt c P #[]) :
    ∃ cs, TabsAt K h cs ∧ ModOk K mg cs C := by
  have one : ∀ fn ∈ C.fns, ∃ cp : Addr × Addr, (h.get? cp.2 = some { cls := .none, data := .fields #[] } ∧ K.lookup cp.2 = none ∧ PySem.W.CodeHd h cp.1 cp.2) ∧ ∀ cs, cp ∈ cs → FnAt K mg cs fn := by
    intro fn hfn
    obtain ⟨f, c, P, oc, od, kV, doc, pm, an, ct, osl, e, dd, vs, sl, h1, h2, h3, h4, h5, h6, h7⟩ := (pre.fns fn hfn).ex
    have hm := PySem.W.mg_of X G h1
    obtain ⟨dr, hdr, hn⟩ := List.any_eq_true.mp (hrec fn hfn)
    have hn' : dr.name = fn.name := beq_iff_eq.mp hn
    obtain ⟨a', o', fd', c', P', g1, g2, g3, g4, g5, g6⟩ := tab dr hdr
    rw [hn', hm] at g1
    cases g1
    have e2 := X _ _ h2
    rw [e2] at g2
    cases g2
    cases g3
    cases g4
    have e5 := X _ _ h5
    obtain ⟨⟨oc', vc, k1, k2, k3, k4⟩, k5⟩ := id g6
    rw [e5] at k1
    cases k1
    cases k3
    rw [h6] at k4
    cases k4
    refine ⟨(c, P), ⟨k5, h7, .of g5 g6⟩, fun cs hcs => ⟨f, _, _, ⟨oc, od, kV, doc, pm, an, ct, osl, rfl, h2, h3⟩, hm, h4, ?_, c, P, rfl, hcs⟩⟩
    exact .all ((txt fn hfn).bnd kV doc pm an (.ref c) ct)
  have many : ∀ l : List Fn, (∀ fn ∈ l, fn ∈ C.fns) → ∃ cs : List (Addr × Addr), TabsAt K h cs ∧ ∀ fn ∈ l, ∀ cs', (∀ p ∈ cs, p ∈ cs') → FnAt K mg cs' fn := by
    intro l
    induction l with
    | nil => intro _; exact ⟨[], ⟨by simp, by simp, by simp⟩, by simp⟩
    | cons fn l ih =>
      intro hl
      obtain ⟨cp, ⟨t1, t2, t3⟩, hF⟩ := one fn (hl fn List.mem_cons_self)
      obtain ⟨cs, tc, hG⟩ := ih fun g hg => hl g (List.mem_cons_of_mem _ hg)
      refine ⟨cp :: cs, ⟨fun p hp => ?_, fun p hp => ?_, fun p hp => ?_⟩, fun g hg cs' hs => ?_⟩
      · rcases List.mem_cons.mp hp with rfl | hp
        · exact t1
        · exact tc.emp p hp
      · rcases List.mem_cons.mp hp with rfl | hp
        · exact t2
        · exact tc.out p hp
      · rcases List.mem_cons.mp hp with rfl | hp
        · exact t3
        · exact tc.code p hp
      · rcases List.mem_cons.mp hg with rfl | hg
        · exact hF cs' (hs cp List.mem_cons_self)
        · exact hG g hg cs' fun p hp => hs p (List.mem_cons_of_mem _ hp)
  obtain ⟨cs, tc, hG⟩ := many C.fns fun _ h => h
  refine ⟨cs, tc, ⟨fun fn hfn => ⟨hG fn hfn cs fun _ h => h, (txt fn hfn).sc⟩, fun x d hx => ?_, fun x hx => ?_⟩⟩
  · obtain ⟨u, h1, h2⟩ := pre.consts (x, d) (lookup_mem hx)
    obtain ⟨v, r1, r2⟩ := repK_ok 8 u d h2
    exact ⟨v, u, PySem.W.mg_of X G h1, r1, r2⟩
  · exact PySem.W.mg_none_of X G (nsNone_eq (List.all_eq_true.mp pre.blt x hx))
/-- the script as the first thing of the store -/
theorem rel_script {c : Ct} {H : Hp} {a : Addr} {ns : List Int} (hT : ∀ P ∈ c.T, TabG H P) (hS : SqL c.K H a (ns.map V.int)) : Rel c [a] [.fro (ns.map D.int)] H := by
  refine ⟨rfl, fun n m b o o' hne e1 e2 _ _ => ?_, fun n b o e1 e2 => ?_, hT⟩
  · have h1 := (List.getElem?_eq_some_iff.mp e1).1
    have h2 := (List.getElem?_eq_some_iff.mp e2).1
    simp at h1 h2
    omega
  · have h1 := (List.getElem?_eq_some_iff.mp e1).1
    simp at h1
    subst h1
    cases e1
    cases e2
    rcases hS with hS | hS
    · exact .inl ⟨_, hS, reps_is ns⟩
    · exact .inr ⟨ns, rfl, hS⟩
/-- from the pure statement to the walk that the head asks -/
theorem walk_rf {l : PySem.W.OpenLaw} {n k : Nat} {q : Program} {loose : List Str} {XP : (Str → Option Value) → Heap → Prop} {YP : World → Heap → Prop} {d : DefRec} {K : Params → PySem.W.Frag} {x : Str} (C : Cfg) (F : Fuel) (law : Fn)
    (hn : l.most = some n) (hn2 : n ≤ sizeLine) (hdf : d.params.defaults = []) (hr : Room (2 * k) callerA) (hY : ∀ (w : World) (h : Heap), YP w h → (K w.params).In h)
    (hlaw : C.fns.find? (fun f => f.name = law.name) = some law) (hname : law.name = d.name) (hps : law.params = [x])
    (hrec : ∀ fn ∈ C.fns, ((recsOf q).any fun e => e.name == fn.name) = true) (txt : ∀ fn ∈ C.fns, FnTxt fn) (pre : ∀ w : World, Pre (K w.params) C)
    (pure : ∀ ns : List Int, ns.length ≤ n → (∀ z ∈ ns, Builtin.Int.intBits z ≤ 1048576) → ∃ S', callF C F k law.name [.loc 0] [.fro (ns.map D.int)] = some (.bl true, S')) :
    PySem.W.WalkO q loose XP YP l.row.toRowW d [] (fun f vs => PySem.call f vs) := by
  refine Att.attach_callB hn hdf fun w s₀ s₁ mg mb fa o pm cd doc a vs ns G Y ho hd hcd hmg hobj hints hlen hbits hg => ?_
  have KX := hY w _ Y
  obtain ⟨cs, tc, mo⟩ := mod_of KX G.T.g (pre w) txt hrec G.T.tab
  have hlm := List.mem_of_find?_eq_some hlaw
  obtain ⟨f, fd, cdv, hF, hm, hk, hb, hcs⟩ := (mo.fns law hlm).1.ex
  rw [hname, hmg] at hm
  cases hm
  refine LamX.law_callTs (x := x) (fd := fd) (sp := spF ⟨K w.params, cs.map (·.2), l.prog, w⟩ (callF C F k law.name)) (CX := C8.CX0) (k := 2 * k) KX G.T.g G.T.b G.T.builtins G.T.nolimit hg tc.emp tc.out tc.code G.T.bmain hobj hints (Nat.le_trans hlen hn2) hr
    (fun base hK hNs hTB => ?_) (fun s u => ?_) (fun H hH hS => ?_) fun H e s' z => z
  · rw [← hps]
    exact fns_ok mo (fun p hp => ⟨(hTB p hp).code, (hTB p hp).bm, (hTB p hp).gP⟩) k law hlm hlaw fa fd cdv hF hcs
  · obtain ⟨oc, od, kV, doc', pm', an, ct, osl, e1, _, _⟩ := hF.ex
    have e2 := (txt law hlm).bnd kV doc' pm' an cdv ct [u] (by rw [hps]; rfl)
    rw [hps] at e2
    rw [e1]
    exact .of_eq e2
  · obtain ⟨S', e⟩ := pure ns hlen hbits
    refine ⟨[a], _, [.loc 0], .bl true, S', rel_script (fun P hP => ?_) hS, .cons (.loc rfl) .nil, e, fun v H' ⟨φ', h1, k1, R1, r1⟩ => r1.bl_inv⟩
    obtain ⟨p, hp, rfl⟩ := List.mem_map.mp hP
    exact ⟨#[], hH p hp, trivial⟩
end RF

end

/-! ## WA -/
section
set_option maxRecDepth 100000
/-! Bodies of defs as combinators; what they tell, from the end back. -/
namespace RF
open PySem
def slotE (i : Nat) : EV := fun σ S => match (σ : List (Option D))[i]? with
  | some (some d) => some (d, S)
  | _ => none
def valE (d : D) : EV := fun _ S => some (d, S)
def runM (np n : Nat) (b : SV) : GC := fun ds S => if ds.length = np then match b (ds.map some ++ List.replicate (n - ds.length) none) S with
  | some (.ret d, _, S') => some (d, S')
  | some (.nx, _, S') => some (.non, S')
  | _ => none else none
def LF : Nat := 400
def F0 : Fuel := ⟨30, 30, 400⟩
def cI (x y : Int) : D := .tup [.int x, .int y]
def c_NEAR_STEPS : D := .tup [.tup [.int 1, .int 0], .tup [.int 1, .int 1], .tup [.int 0, .int 1], .tup [.int (-1), .int 1], .tup [.int (-1), .int 0], .tup [.int (-1), .int (-1)], .tup [.int 0, .int (-1)], .tup [.int 1, .int (-1)]]
def c_SIDE_STEPS : D := .tup [.tup [.int 1, .int 0], .tup [.int 0, .int 1], .tup [.int (-1), .int 0], .tup [.int 0, .int (-1)]]
end RF

end

/-! ## WS -/
section
set_option maxRecDepth 100000
/-! The machine does the same behind any other store. -/
namespace RF
open PySem
mutual
def shD (p : Nat) : D → D
  | .tup ds => .tup (shDs p ds)
  | .loc n => .loc (p + n)
  | .non => .non
  | .bl b => .bl b
  | .int i => .int i
  | .str x => .str x
def shDs (p : Nat) : List D → List D
  | [] => []
  | d :: r => shD p d :: shDs p r
end
theorem shDs_map (p : Nat) : ∀ ds : List D, shDs p ds = ds.map (shD p)
  | [] => rfl
  | d :: r => by rw [shDs, shDs_map p r]; rfl
abbrev shE2 (p : Nat) (e : D × D) : D × D := (shD p e.1, shD p e.2)
def shO (p : Nat) : O → O
  | .lst ds => .lst (ds.map (shD p))
  | .fro ds => .fro (ds.map (shD p))
  | .dct kvs => .dct (kvs.map (shE2 p))
def shS (p : Nat) (S : Store) : Store := List.map (shO p) S
def shσ (p : Nat) (σ : Slots) : Slots := List.map (Option.map (shD p)) σ
def Ex (P S : Store) : Store := P ++ shS (List.length P) S
theorem sh_tup (p : Nat) (ds : List D) : shD p (.tup ds) = .tup (ds.map (shD p)) := by rw [shD, shDs_map]
section
variable (P S : Store)
theorem Ex_len : List.length (Ex P S) = List.length P + List.length S := by simp [Ex, shS]
theorem Ex_get (n : Nat) : (Ex P S : List O)[List.length P + n]? = ((S : List O)[n]?).map (shO (List.length P)) := by
  rw [Ex, List.getElem?_append_right (by omega), shS, List.getElem?_map]
  congr 1
  congr 1
  omega
theorem Ex_new (o : O) : Ex P S ++ [shO (List.length P) o] = Ex P (S ++ [o]) := by
  simp [Ex, shS]
theorem Ex_set (n : Nat) (o : O) : List.set (Ex P S) (List.length P + n) (shO (List.length P) o) = Ex P (List.set S n o) := by
  rw [Ex, List.set_append_right (h := by omega), Ex, shS, shS, List.map_set]
  congr 2
  omega
end
theorem shσ_set (p i : Nat) (d : D) (σ : Slots) : List.set (shσ p σ) i (some (shD p d)) = shσ p (List.set σ i (some d)) := by
  simp [shσ, List.map_set]
theorem shσ_none (p i : Nat) (σ : Slots) : List.set (shσ p σ) i none = shσ p (List.set σ i none) := by
  simp [shσ, List.map_set]

/-! keys -/
theorem dKey_sh (p : Nat) (d : D) : dKey (shD p d) = dKey d := by cases d <;> simp [shD, dKey]
mutual
theorem nkD_sh (p : Nat) : ∀ d : D, nkD (shD p d) = nkD d
  | .tup ds => by simp only [shD, nkD, nksD_sh p ds]
  | .loc n => by simp [shD, nkD]
  | .non => rfl
  | .bl b => rfl
  | .int i => rfl
  | .str x => rfl
theorem nksD_sh (p : Nat) : ∀ ds : List D, nksD (shDs p ds) = nksD ds
  | [] => rfl
  | d :: r => by simp only [shDs, nksD, nkD_sh p d, nksD_sh p r]
end
theorem tkD_sh (p : Nat) (d : D) : tkD (shD p d) = tkD d := by
  cases d with
  | tup ds => simp only [shD, tkD, nksD_sh]
  | _ => rfl
theorem kindOk_sh (p : Nat) (kvs : List (D × D)) (x : D) : kindOk (kvs.map (shE2 p)) (shD p x) = kindOk kvs x := by
  unfold kindOk
  rw [dKey_sh, tkD_sh]
  cases dKey x <;> simp [List.all_map, Function.comp_def, shE2, dKey_sh, tkD_sh]
theorem lookD_sh (p : Nat) (kvs : List (D × D)) (x : D) : lookD (kvs.map (shE2 p)) (shD p x) = (lookD kvs x).map (shD p) := by
  unfold lookD
  rw [dKey_sh, tkD_sh]
  cases dKey x with
  | some k => simp [List.find?_map, Function.comp_def, shE2, dKey_sh, Option.map_map]
  | none =>
    cases tkD x with
    | some k => simp [List.find?_map, Function.comp_def, shE2, tkD_sh, Option.map_map]
    | none => rfl
theorem putBy_sh {κ : Type} [DecidableEq κ] (kf : D → Option κ) (hk : ∀ d, kf (shD p d) = kf d) (k : κ) (x v : D) (kvs : List (D × D)) : putBy kf k (shD p x) (shD p v) (kvs.map (shE2 p)) = (putBy kf k x v kvs).map (shE2 p) := by
  unfold putBy
  simp only [List.any_map, Function.comp_def, shE2, hk]
  split
  · simp only [List.map_map, Function.comp_def, hk]
    apply List.map_congr_left
    intro e _
    by_cases h : kf e.1 = some k <;> simp [h, shE2, hk]
  · simp [shE2]
theorem putD_sh (p : Nat) (kvs : List (D × D)) (x v : D) : putD (kvs.map (shE2 p)) (shD p x) (shD p v) = (putD kvs x v).map (shE2 p) := by
  unfold putD
  rw [dKey_sh, tkD_sh]
  cases dKey x with
  | some k => exact putBy_sh dKey (dKey_sh p) k x v kvs
  | none =>
    cases tkD x with
    | some k => exact putBy_sh tkD (tkD_sh p) k x v kvs
    | none => rfl
theorem dropD_sh (p : Nat) (kvs : List (D × D)) (x : D) : dropD (kvs.map (shE2 p)) (shD p x) = (dropD kvs x).map (shE2 p) := by
  unfold dropD
  rw [dKey_sh, tkD_sh]
  cases dKey x with
  | some k => simp [List.filter_map, Function.comp_def, shE2, dKey_sh]
  | none =>
    cases tkD x with
    | some k => simp [List.filter_map, Function.comp_def, shE2, tkD_sh]
    | none => rfl
theorem putAll_sh (p : Nat) (ps : List (D × D)) : ∀ kvs : List (D × D), putAll (kvs.map (shE2 p)) (ps.map (shE2 p)) = (putAll kvs ps).map (shE2 p) := by
  induction ps with
  | nil => intro kvs; rfl
  | cons e ps ih =>
    intro kvs
    show putAll (putD (kvs.map (shE2 p)) (shD p e.1) (shD p e.2)) (ps.map (shE2 p)) = _
    rw [putD_sh, ih]
    rfl
/-! data -/
theorem allS_congr {α β : Type} {f g : α → Option β} : ∀ {l : List α}, (∀ a ∈ l, f a = g a) → allS (l.map f) = allS (l.map g)
  | [], _ => rfl
  | a :: r, h => by
    have h1 := h a List.mem_cons_self
    have h2 := allS_congr fun b hb => h b (List.mem_cons_of_mem _ hb)
    show allS (f a :: r.map f) = allS (g a :: r.map g)
    rw [h1]
    cases g a with
    | none => rfl
    | some b => simp only [allS, h2]
theorem toPy_sh (P S : Store) : ∀ (f : Nat) (d : D), toPy (Ex P S) f (shD (List.length P) d) = toPy S f d := by
  intro f
  induction f with
  | zero => intro d; cases d <;> simp [shD, toPy]
  | succ f ih =>
    intro d
    cases d with
    | tup ds =>
      simp only [sh_tup, toPy, List.map_map, Function.comp_def, ih]
    | loc n =>
      simp only [shD, toPy, Ex_get]
      cases (S : List O)[n]? with
      | none => rfl
      | some o => cases o <;> simp only [Option.map, shO, List.map_map, Function.comp_def, ih]
    | _ => simp [shD, toPy]
theorem toPys_sh (P S : Store) (f : Nat) (ds : List D) : toPys (Ex P S) f (ds.map (shD (List.length P))) = toPys S f ds := by
  simp only [toPys, List.map_map, Function.comp_def, toPy_sh]
theorem py_sh (P S : Store) (d : D) : py (Ex P S) (shD (List.length P) d) = py S d := toPy_sh P S 40 d
theorem allS_some {α : Type} : ∀ {l : List (Option α)} {as : List α}, allS l = some as → ∀ o ∈ l, ∃ a, o = some a
  | [], _, _ => by simp
  | none :: r, _, h => by cases h
  | some a :: r, as, h => by
    simp only [allS] at h
    split at h
    · rename_i bs e
      intro o ho
      rcases List.mem_cons.mp ho with rfl | ho
      · exact ⟨a, rfl⟩
      · exact allS_some e o ho
    · cases h
theorem map_same {α : Type} {f : α → α} {l : List α} (h : ∀ a ∈ l, f a = a) : l.map f = l := by
  induction l with
  | nil => rfl
  | cons a r ih => rw [List.map_cons, h a List.mem_cons_self, ih fun b hb => h b (List.mem_cons_of_mem _ hb)]
theorem flat_sh (p : Nat) : ∀ (f : Nat) (d : D) (q : PyData), toPy [] f d = some q → shD p d = d := by
  intro f
  induction f with
  | zero => intro d q h; cases d <;> simp [toPy, shD] at h ⊢
  | succ f ih =>
    intro d q h
    cases d with
    | tup ds =>
      simp only [toPy] at h
      split at h
      · rename_i ps e
        rw [sh_tup, map_same]
        intro a ha
        obtain ⟨b, hb⟩ := allS_some e _ (List.mem_map_of_mem ha)
        exact ih a b hb
      · cases h
    | loc n => simp [toPy] at h
    | _ => simp [shD]
theorem intsOf_sh (p : Nat) {ds : List D} {is : List Int} (h : intsOf ds = some is) : ds.map (shD p) = ds := by
  rw [intsOf_map h, List.map_map]
  rfl
theorem blsOf_map : ∀ {ds : List D} {is : List Bool}, blsOf ds = some is → ds = is.map .bl
  | [], _, h => by cases h; rfl
  | .bl i :: ds, _, h => by
    simp only [blsOf] at h
    split at h
    · rename_i is e
      cases h
      rw [List.map_cons, ← blsOf_map e]
    · cases h
  | .non :: _, _, h => by cases h
  | .int _ :: _, _, h => by cases h
  | .str _ :: _, _, h => by cases h
  | .tup _ :: _, _, h => by cases h
  | .loc _ :: _, _, h => by cases h
theorem tupI_sh (p : Nat) (r : List Int) : shD p (tupI r) = tupI r := by
  rw [tupI, sh_tup, List.map_map]; rfl
theorem rows_sh (p : Nat) (rs : List (List Int)) : (rs.map tupI).map (shD p) = rs.map tupI := by
  rw [List.map_map]
  apply List.map_congr_left
  intro r _
  exact tupI_sh p r
theorem pairsD_sh (p : Nat) : ∀ {ds : List D} {ps : List (D × D)}, pairsD ds = some ps → pairsD (ds.map (shD p)) = some (ps.map (shE2 p)) := by
  intro ds
  induction ds with
  | nil => intro ps h; cases h; rfl
  | cons d ds ih =>
    intro ps h
    unfold pairsD at h
    split at h
    · rename_i e; cases e
    · rename_i k v r e
      cases e
      split at h
      · rename_i r e
        cases h
        simp only [List.map_cons, sh_tup, List.map_nil, pairsD, ih e]
      · cases h
    · cases h
theorem insD_mem {le : D → D → Bool} {a x : D} : ∀ {l : List D}, x ∈ insD le a l → x = a ∨ x ∈ l
  | [], h => by simp [insD] at h; exact .inl h
  | b :: r, h => by
    unfold insD at h
    split at h
    · rcases List.mem_cons.mp h with h | h
      · exact .inl h
      · exact .inr h
    · rcases List.mem_cons.mp h with h | h
      · exact .inr (h ▸ List.mem_cons_self)
      · rcases insD_mem h with h | h
        · exact .inl h
        · exact .inr (List.mem_cons_of_mem _ h)
theorem isort_mem {le : D → D → Bool} {x : D} : ∀ {l : List D}, x ∈ isort le l → x ∈ l
  | [], h => by cases h
  | a :: r, h => by
    rcases insD_mem h with h | h
    · exact h ▸ List.mem_cons_self
    · exact List.mem_cons_of_mem _ (isort_mem h)
theorem sortOk_flat (p : Nat) {ds : List D} (h : sortOk ds = true) : ∀ d ∈ ds, shD p d = d := by
  intro d hd
  obtain ⟨_, h2, _⟩ := sortOk_inv h
  obtain ⟨q, hq⟩ := h2 d hd
  exact flat_sh p 40 d q hq
theorem sortD_sh (p : Nat) {ds : List D} (h : sortOk ds = true) : (sortD ds).map (shD p) = sortD ds :=
  map_same fun a ha => sortOk_flat p h a (isort_mem ha)

/-! ### what it means that a part does the same -/
def ShE (f : EV) : Prop := ∀ (P : Store) (σ : Slots) (S : Store) (d : D) (S' : Store), f σ S = some (d, S') → f (shσ (List.length P) σ) (Ex P S) = some (shD (List.length P) d, Ex P S')
def ShA (f : AV) : Prop := ∀ (P : Store) (σ : Slots) (S : Store) (d : List D) (S' : Store), f σ S = some (d, S') → f (shσ (List.length P) σ) (Ex P S) = some (d.map (shD (List.length P)), Ex P S')
def ShB (f : BV) : Prop := ∀ (P : Store) (σ : Slots) (S : Store) (d : Bool) (S' : Store), f σ S = some (d, S') → f (shσ (List.length P) σ) (Ex P S) = some (d, Ex P S')
def ShP (f : PV) : Prop := ∀ (P : Store) (σ : Slots) (S : Store) (d : Option Int) (S' : Store), f σ S = some (d, S') → f (shσ (List.length P) σ) (Ex P S) = some (d, Ex P S')
def Sh2 (g : G2) : Prop := ∀ (P : Store) (x y : D) (S : Store) (d : D) (S' : Store), g x y S = some (d, S') → g (shD (List.length P) x) (shD (List.length P) y) (Ex P S) = some (shD (List.length P) d, Ex P S')
def ShC (g : GC) : Prop := ∀ (P : Store) (ds : List D) (S : Store) (d : D) (S' : Store), g ds S = some (d, S') → g (ds.map (shD (List.length P))) (Ex P S) = some (shD (List.length P) d, Ex P S')
def ShM (g : GM) : Prop := ∀ (P : Store) (o : D) (ds : List D) (S : Store) (d : D) (S' : Store), g o ds S = some (d, S') → g (shD (List.length P) o) (ds.map (shD (List.length P))) (Ex P S) = some (shD (List.length P) d, Ex P S')
def ShG (g : GV) : Prop := ∀ (P : Store) (d : D) (σ : Slots) (S : Store) (σ' : Slots) (S' : Store), g d σ S = some (σ', S') → g (shD (List.length P) d) (shσ (List.length P) σ) (Ex P S) = some (shσ (List.length P) σ', Ex P S')
def ShGs (g : GVs) : Prop := ∀ (P : Store) (d : List D) (σ : Slots) (S : Store) (σ' : Slots) (S' : Store), g d σ S = some (σ', S') → g (d.map (shD (List.length P))) (shσ (List.length P) σ) (Ex P S) = some (shσ (List.length P) σ', Ex P S')
def shSrc (p : Nat) : Src → Src
  | .seq n => .seq (p + n)
  | .tup ds => .tup (ds.map (shD p))
  | .rng lo n => .rng lo n
  | .enu s => .enu (shSrc p s)
  | .zip s t => .zip (shSrc p s) (shSrc p t)
def ShI (f : IV) : Prop := ∀ (P : Store) (σ : Slots) (S : Store) (d : Src) (S' : Store), f σ S = some (d, S') → f (shσ (List.length P) σ) (Ex P S) = some (shSrc (List.length P) d, Ex P S')
def shFl (p : Nat) : Fl → Fl
  | .ret d => .ret (shD p d)
  | .nx => .nx
  | .brk => .brk
  | .cont => .cont
def ShV (f : SV) : Prop := ∀ (P : Store) (σ : Slots) (S : Store) (r : Fl) (σ' : Slots) (S' : Store), f σ S = some (r, σ', S') → f (shσ (List.length P) σ) (Ex P S) = some (shFl (List.length P) r, shσ (List.length P) σ', Ex P S')

theorem nextS_sh (P S : Store) : ∀ (src : Src) (i : Nat), nextS (Ex P S) (shSrc (List.length P) src) i = (nextS S src i).map (Option.map (shD (List.length P))) := by
  intro src
  induction src with
  | seq n =>
    intro i
    simp only [shSrc, nextS, Ex_get]
    cases (S : List O)[n]? with
    | none => rfl
    | some o => cases o <;> simp [shO]
  | tup ds => intro i; simp [shSrc, nextS]
  | rng lo n =>
    intro i
    simp only [shSrc, nextS, Option.map]
    split <;> rfl
  | enu s ih =>
    intro i
    simp only [shSrc, nextS, ih]
    cases nextS S s i with
    | none => rfl
    | some o => cases o <;> simp [shD, shDs_map]
  | zip s t ih1 ih2 =>
    intro i
    simp only [shSrc, nextS, ih1, ih2]
    cases nextS S s i with
    | none => rfl
    | some o =>
      cases o with
      | none => rfl
      | some d =>
        cases nextS S t i with
        | none => rfl
        | some o => cases o <;> simp [sh_tup]
end RF

end

/-! ## WT -/
section
set_option maxRecDepth 100000
/-! Every part of the machine does the same behind any other store. -/
namespace RF
open PySem L2
theorem sh_slotE (i : Nat) : ShE (slotE i) := by
  intro P σ S d S' h
  unfold slotE at h ⊢
  split at h
  · rename_i x e
    cases h
    simp [shσ, e]
  · cases h
theorem sh_valE {d : D} (hd : ∀ p, shD p d = d) : ShE (valE d) := by
  intro P σ S e S' h
  cases h
  simp [valE, hd]
theorem sh_bind2 {g : G2} {fa fb : EV} (hg : Sh2 g) (ha : ShE fa) (hb : ShE fb) : ShE (bind2 g fa fb) := by
  intro P σ S d S' h
  unfold bind2 at h ⊢
  split at h
  · rename_i x S1 e1
    split at h
    · rename_i y S2 e2
      rw [ha P σ S _ _ e1]; dsimp only
      rw [hb P σ S1 _ _ e2]; dsimp only
      exact hg P _ _ _ _ _ h
    · cases h
  · cases h
theorem sh_intD {C : Int → Int → Bool} {f : Int → Int → D} (hf : ∀ p i j, shD p (f i j) = f i j) : Sh2 (intD C f) := by
  intro P x y S d S' h
  unfold intD at h
  split at h
  · split at h
    · rename_i hc
      cases h
      simp [intD, shD, hc, hf]
    · cases h
  · cases h
theorem sh_addD : Sh2 addD := by
  intro P x y S d S' h
  unfold addD at h
  split at h
  · cases h; simp [addD, shD]
  · rename_i a b
    split at h
    · rename_i hl
      cases h
      simp only [sh_tup, addD, List.length_map, hl, if_true, List.map_append]
    · cases h
  · rename_i n m
    split at h
    · rename_i a b e1 e2
      split at h
      · rename_i hl
        cases h
        simp only [shD, addD, Ex_get, e1, e2, Option.map, shO, List.length_map, hl, if_true, Ex_len]
        rw [← Ex_new]
        simp [shO]
      · cases h
    · cases h
  · rename_i a b
    split at h
    · rename_i hl
      cases h
      simp only [shD, addD, hl, if_true]
    · cases h
  · cases h
theorem sh_bin : ∀ op : Operator, Sh2 (binD op)
  | .Add => sh_addD
  | .Sub => sh_intD fun _ _ _ => by simp [shD]
  | .Mult => sh_intD fun _ _ _ => by simp [shD]
  | .FloorDiv => sh_intD fun _ _ _ => by simp [shD]
  | .Mod => sh_intD fun _ _ _ => by simp [shD]
  | .LShift => sh_intD fun _ _ _ => by simp [shD]
  | .RShift => sh_intD fun _ _ _ => by simp [shD]
  | .BitAnd => sh_intD fun _ _ _ => by simp [shD]
  | .BitOr => sh_intD fun _ _ _ => by simp [shD]
  | .BitXor => sh_intD fun _ _ _ => by simp [shD]
  | .Div => fun P x y S d S' h => by cases h
  | .Pow => fun P x y S d S' h => by cases h
  | .MatMult => fun P x y S d S' h => by cases h
theorem sh_iop : ∀ op : Operator, Sh2 (iopD op)
  | .Add => sh_intD fun _ _ _ => by simp [shD]
  | .Sub => sh_intD fun _ _ _ => by simp [shD]
  | .Mult => sh_intD fun _ _ _ => by simp [shD]
  | .FloorDiv => fun P x y S d S' h => by cases h
  | .Mod => fun P x y S d S' h => by cases h
  | .LShift => fun P x y S d S' h => by cases h
  | .RShift => fun P x y S d S' h => by cases h
  | .BitAnd => sh_intD fun _ _ _ => by simp [shD]
  | .BitOr => sh_intD fun _ _ _ => by simp [shD]
  | .BitXor => sh_intD fun _ _ _ => by simp [shD]
  | .Div => fun P x y S d S' h => by cases h
  | .Pow => fun P x y S d S' h => by cases h
  | .MatMult => fun P x y S d S' h => by cases h
theorem sh_eqD (neg : Bool) : Sh2 (eqD neg) := by
  intro P x y S d S' h
  unfold eqD at h ⊢
  rw [py_sh, py_sh]
  split at h
  · cases h; simp [shD, *]
  · cases h
theorem sh_inD (neg : Bool) : Sh2 (inD neg) := by
  intro P x y S d S' h
  unfold inD at h
  split at h
  · rename_i ds
    split at h
    · rename_i e1 e2
      cases h
      rw [sh_tup]
      simp only [inD, py_sh, toPys_sh, e1, e2, shD]
    · cases h
  · rename_i n
    split at h
    · rename_i kvs e1
      split at h
      · rename_i hk
        cases h
        simp only [shD, inD, Ex_get, e1, Option.map, shO, kindOk_sh, hk, if_true, lookD_sh]
        cases lookD kvs x <;> rfl
      · cases h
    · rename_i ds e1
      split at h
      · rename_i e2 e3
        cases h
        simp only [shD, inD, Ex_get, e1, Option.map, shO, py_sh, toPys_sh, e2, e3]
      · cases h
    · rename_i ds e1
      split at h
      · rename_i e2 e3
        cases h
        simp only [shD, inD, Ex_get, e1, Option.map, shO, py_sh, toPys_sh, e2, e3]
      · cases h
    · cases h
  · cases h
theorem sh_isD (neg : Bool) : Sh2 (isD neg) := by
  intro P x y S d S' h
  unfold isD at h
  split at h
  · split at h
    · cases h; simp [shD, isD]
    · cases h
    · cases h
      cases x <;> simp_all [shD, isD]
  · cases h
theorem sh_cmp : ∀ op : CmpOp, Sh2 (cmpD op)
  | .Eq => sh_eqD _
  | .NotEq => sh_eqD _
  | .Lt => sh_intD fun _ _ _ => by simp [shD]
  | .LtE => sh_intD fun _ _ _ => by simp [shD]
  | .Gt => sh_intD fun _ _ _ => by simp [shD]
  | .GtE => sh_intD fun _ _ _ => by simp [shD]
  | .In => sh_inD _
  | .NotIn => sh_inD _
  | .Is => sh_isD _
  | .IsNot => sh_isD _
theorem sh_chain {g g' : G2} {fa fb fc : EV} (hg : Sh2 g) (hg' : Sh2 g') (ha : ShE fa) (hb : ShE fb) (hc : ShE fc) : ShE (chainE g g' fa fb fc) := by
  intro P σ S d S' h
  unfold chainE at h ⊢
  split at h
  · rename_i x S1 e1
    split at h
    · rename_i y S2 e2
      rw [ha P σ S _ _ e1]; dsimp only
      rw [hb P σ S1 _ _ e2]; dsimp only
      split at h
      · rename_i S3 e3
        rw [hg P _ _ _ _ _ e3]; simp only [shD]
        split at h
        · rename_i z S4 e4
          rw [hc P σ S3 _ _ e4]; dsimp only
          exact hg' P _ _ _ _ _ h
        · cases h
      · rename_i S3 e3
        cases h
        rw [hg P _ _ _ _ _ e3]; simp only [shD]
      · cases h
    · cases h
  · cases h
theorem atI_map {f : D → D} {ds : List D} {i : Int} {d : D} (h : atI ds i = some d) : atI (ds.map f) i = some (f d) := by
  unfold atI at h ⊢
  simp only [List.length_map, List.getElem?_map]
  cases e : ixN ds.length i with
  | none => simp [e] at h
  | some j => simp [e] at h ⊢; exact ⟨d, h, rfl⟩
theorem sh_ixD : Sh2 ixD := by
  intro P x y S d S' h
  unfold ixD at h
  split at h
  · rename_i ds
    split at h
    · rename_i i
      split at h
      · rename_i e
        cases h
        rw [sh_tup]
        simp only [shD, ixD, atI_map e]
      · cases h
    · cases h
  · rename_i z
    split at h
    · split at h
      · rename_i hl
        split at h
        · rename_i e
          cases h
          simp only [shD, ixD, hl, if_true, e]
        · cases h
      · cases h
    · cases h
  · rename_i n
    split at h
    · rename_i kvs e1
      split at h
      · rename_i hk
        split at h
        · rename_i e2
          cases h
          simp only [shD, ixD, Ex_get, e1, Option.map, shO, kindOk_sh, hk, if_true, lookD_sh, e2]
        · cases h
      · cases h
    · rename_i ds e1
      split at h
      · split at h
        · rename_i e
          cases h
          simp only [shD, ixD, Ex_get, e1, Option.map, shO, atI_map e]
        · cases h
      · cases h
    · rename_i ds e1
      split at h
      · split at h
        · rename_i e
          cases h
          simp only [shD, ixD, Ex_get, e1, Option.map, shO, atI_map e]
        · cases h
      · cases h
    · cases h
  · cases h
theorem sh_noP : ShP noP := fun P σ S d S' h => by cases h; rfl
theorem sh_someP {f : EV} (hf : ShE f) : ShP (someP f) := by
  intro P σ S d S' h
  unfold someP at h ⊢
  split at h
  · rename_i e
    cases h
    rw [hf P σ S _ _ e]; simp only [shD]
  · cases h
theorem cutL_map {α β : Type} (f : α → β) (ds : List α) (l h : Option Int) : cutL (ds.map f) l h = (cutL ds l h).map f := by
  simp [cutL, List.map_take, List.map_drop]
theorem sh_slice {f : EV} {lo hi : PV} (hf : ShE f) (hl : ShP lo) (hh : ShP hi) : ShE (sliceE f lo hi) := by
  intro P σ S d S' h
  unfold sliceE at h ⊢
  split at h
  · rename_i x S1 e1
    split at h
    · rename_i l S2 e2
      split at h
      · rename_i r S3 e3
        rw [hf P σ S _ _ e1]; dsimp only
        rw [hl P σ S1 _ _ e2]; dsimp only
        rw [hh P σ S2 _ _ e3]; dsimp only
        unfold sliceD at h
        split at h
        · cases h
          simp only [sh_tup, sliceD, cutL_map]
        · rename_i n
          split at h
          · rename_i ds e
            cases h
            simp only [shD, sliceD, Ex_get, e, Option.map, shO, Ex_len, cutL_map]
            rw [← Ex_new]; simp [shO]
          · rename_i ds e
            cases h
            simp only [shD, sliceD, Ex_get, e, Option.map, shO, Ex_len, cutL_map]
            rw [← Ex_new]; simp [shO]
          · cases h
        · split at h
          · rename_i hz
            cases h
            simp only [shD, sliceD, hz, if_true]
          · cases h
        · cases h
      · cases h
    · cases h
  · cases h
theorem sh_rev {f : EV} (hf : ShE f) : ShE (revE f) := by
  intro P σ S d S' h
  unfold revE at h ⊢
  split at h
  · rename_i n S1 e1
    rw [hf P σ S _ _ e1]; simp only [shD]
    split at h
    · rename_i ds e
      cases h
      simp only [Ex_get, e, Option.map, shO, Ex_len]
      rw [← Ex_new]; simp [shO, shD]
    · rename_i ds e
      cases h
      simp only [Ex_get, e, Option.map, shO, Ex_len]
      rw [← Ex_new]; simp [shO, shD]
    · cases h
  · cases h
theorem truD_sh {P S : Store} {d : D} {b : Bool} (h : truD S d = some b) : truD (Ex P S) (shD (List.length P) d) = some b := by
  unfold truD at h
  split at h
  · cases h; rfl
  · cases h; rfl
  · cases h; rfl
  · split at h
    · rename_i hx
      cases h
      simp only [shD, truD, hx, if_true]
    · cases h
  · rename_i ds
    cases h
    rw [sh_tup]
    simp [truD]
  · rename_i n
    split at h
    · rename_i ds e
      cases h
      simp [shD, truD, Ex_get, e, shO]
    · rename_i ds e
      cases h
      simp [shD, truD, Ex_get, e, shO]
    · cases h
theorem sh_truE {f : EV} (hf : ShE f) : ShB (truE f) := by
  intro P σ S d S' h
  unfold truE at h ⊢
  split at h
  · rename_i x S1 e1
    rw [hf P σ S _ _ e1]; dsimp only
    split at h
    · rename_i e2
      cases h
      rw [truD_sh e2]
    · cases h
  · cases h
theorem sh_notB {f : BV} (hf : ShB f) : ShB (notB f) := by
  intro P σ S d S' h
  unfold notB at h ⊢
  split at h
  · rename_i e1
    cases h
    rw [hf P σ S _ _ e1]
  · cases h
theorem sh_andB {f g : BV} (hf : ShB f) (hg : ShB g) : ShB (andB f g) := by
  intro P σ S d S' h
  unfold andB at h ⊢
  split at h
  · rename_i e1
    rw [hf P σ S _ _ e1]; exact hg P _ _ _ _ h
  · rename_i e1
    cases h
    rw [hf P σ S _ _ e1]
  · cases h
theorem sh_orB {f g : BV} (hf : ShB f) (hg : ShB g) : ShB (orB f g) := by
  intro P σ S d S' h
  unfold orB at h ⊢
  split at h
  · rename_i e1
    cases h
    rw [hf P σ S _ _ e1]
  · rename_i e1
    rw [hf P σ S _ _ e1]; exact hg P _ _ _ _ h
  · cases h
theorem sh_cmpB {f : EV} (hf : ShE f) : ShB (cmpB f) := by
  intro P σ S d S' h
  unfold cmpB at h ⊢
  split at h
  · rename_i e1
    cases h
    rw [hf P σ S _ _ e1]; simp only [shD]
  · cases h
theorem sh_yesB : ShB yesB := fun P σ S d S' h => by cases h; rfl
theorem sh_andE {f g : EV} (hf : ShE f) (hg : ShE g) : ShE (andE f g) := by
  intro P σ S d S' h
  unfold andE at h ⊢
  split at h
  · rename_i x S1 e1
    rw [hf P σ S _ _ e1]; dsimp only
    split at h
    · rename_i e2
      rw [truD_sh e2]; exact hg P _ _ _ _ h
    · rename_i e2
      cases h
      rw [truD_sh e2]
    · cases h
  · cases h
theorem sh_orE {f g : EV} (hf : ShE f) (hg : ShE g) : ShE (orE f g) := by
  intro P σ S d S' h
  unfold orE at h ⊢
  split at h
  · rename_i x S1 e1
    rw [hf P σ S _ _ e1]; dsimp only
    split at h
    · rename_i e2
      cases h
      rw [truD_sh e2]
    · rename_i e2
      rw [truD_sh e2]; exact hg P _ _ _ _ h
    · cases h
  · cases h
theorem sh_notE {f : EV} (hf : ShE f) : ShE (notE f) := by
  intro P σ S d S' h
  unfold notE at h ⊢
  split at h
  · rename_i x S1 e1
    rw [hf P σ S _ _ e1]; dsimp only
    split at h
    · rename_i e2
      cases h
      rw [truD_sh e2]; simp [shD]
    · cases h
  · cases h
theorem sh_negE {f : EV} (hf : ShE f) : ShE (negE f) := by
  intro P σ S d S' h
  unfold negE at h ⊢
  split at h
  · rename_i e1
    cases h
    rw [hf P σ S _ _ e1]; simp [shD]
  · cases h
theorem sh_ifE {t : BV} {f g : EV} (ht : ShB t) (hf : ShE f) (hg : ShE g) : ShE (ifE t f g) := by
  intro P σ S d S' h
  unfold ifE at h ⊢
  split at h
  · rename_i e1
    rw [ht P σ S _ _ e1]; exact hf P _ _ _ _ h
  · rename_i e1
    rw [ht P σ S _ _ e1]; exact hg P _ _ _ _ h
  · cases h
theorem sh_nilA : ShA nilA := fun P σ S d S' h => by cases h; rfl
theorem sh_consA {f : EV} {g : AV} (hf : ShE f) (hg : ShA g) : ShA (consA f g) := by
  intro P σ S d S' h
  unfold consA at h ⊢
  split at h
  · rename_i x S1 e1
    rw [hf P σ S _ _ e1]; dsimp only
    split at h
    · rename_i e2
      cases h
      rw [hg P σ S1 _ _ e2]; simp
    · cases h
  · cases h
theorem sh_tupE {g : AV} (hg : ShA g) : ShE (tupE g) := by
  intro P σ S d S' h
  unfold tupE at h ⊢
  split at h
  · rename_i e1
    split at h
    · rename_i hl
      cases h
      rw [hg P σ S _ _ e1]; simp [hl, sh_tup]
    · cases h
  · cases h
theorem sh_lstE {g : AV} (hg : ShA g) : ShE (lstE g) := by
  intro P σ S d S' h
  unfold lstE at h ⊢
  split at h
  · rename_i ds S1 e1
    split at h
    · rename_i hl
      cases h
      rw [hg P σ S _ _ e1]
      simp only [List.length_map, hl, if_true, Ex_len, shD, ← Ex_new, shO]
    · cases h
  · cases h
theorem sh_callE {g : GC} {fa : AV} (hg : ShC g) (ha : ShA fa) : ShE (callE g fa) := by
  intro P σ S d S' h
  unfold callE at h ⊢
  split at h
  · rename_i e1
    rw [ha P σ S _ _ e1]; exact hg P _ _ _ _ h
  · cases h
theorem seqD_sh {P S : Store} {d : D} {xs : List D} (h : seqD S d = some xs) : seqD (Ex P S) (shD (List.length P) d) = some (xs.map (shD (List.length P))) := by
  unfold seqD at h
  split at h
  · cases h; simp [sh_tup, seqD]
  · split at h
    · rename_i e
      cases h; simp [shD, seqD, Ex_get, e, shO]
    · rename_i e
      cases h; simp [shD, seqD, Ex_get, e, shO]
    · cases h
  · cases h
theorem lstD_sh {P S : Store} {d : D} {xs : List D} (h : lstD S d = some xs) : lstD (Ex P S) (shD (List.length P) d) = some (xs.map (shD (List.length P))) := by
  unfold lstD at h
  split at h
  · split at h
    · rename_i e
      cases h; simp [shD, lstD, Ex_get, e, shO]
    · rename_i e
      cases h; simp [shD, lstD, Ex_get, e, shO]
    · cases h
  · cases h
theorem sh_lenG : ShC lenG := by
  intro P ds S d S' h
  unfold lenG at h
  split at h
  · split at h
    · rename_i hz
      cases h
      simp [shD, lenG, hz]
    · cases h
  · rename_i x hx
    split at h
    · rename_i xs e
      cases h
      have e' := seqD_sh (P := P) e
      cases x <;> simp_all [lenG, shD, shDs_map] <;> simp_all [seqD]
    · rename_i e
      split at h
      · rename_i n
        split at h
        · rename_i kvs e2
          cases h
          simp [lenG, shD, seqD, Ex_get, e2, shO]
        · cases h
      · cases h
  · cases h
theorem sh_tupleG : ShC tupleG := by
  intro P ds S d S' h
  unfold tupleG at h
  split at h
  · split at h
    · rename_i xs e
      cases h
      simp [tupleG, seqD_sh e, sh_tup]
    · cases h
  · cases h
theorem sh_listG : ShC listG := by
  intro P ds S d S' h
  unfold listG at h
  split at h
  · split at h
    · rename_i xs e
      cases h
      simp [listG, seqD_sh e, shD, Ex_len, ← Ex_new, shO]
    · cases h
  · cases h
theorem sh_absG : ShC absG := by
  intro P ds S d S' h
  unfold absG at h
  split at h
  · cases h; simp [absG, shD]
  · cases h
theorem sh_intG : ShC intG := by
  intro P ds S d S' h
  unfold intG at h
  split at h
  · cases h; simp [intG, shD]
  · cases h; simp [intG, shD]
  · cases h
theorem sh_orG {g h' : GC} (hg : ShC g) (hh : ShC h') (hx : ∀ P ds S, g ds S = none → (h' ds S).isSome = true → g (ds.map (shD (List.length P))) (Ex P S) = none) : ShC (orG g h') := by
  intro P ds S d S' h
  unfold orG at h ⊢
  split at h
  · rename_i r e
    cases h
    rw [hg P _ _ _ _ e]
  · rename_i e
    rw [hx P ds S e (by rw [h]; rfl)]
    exact hh P _ _ _ _ h
theorem sh_overG {α : Type} {f : List D → Option (List α)} {k : List α → Option D} (hf : ∀ p ds is, f ds = some is → ds.map (shD p) = ds) (hk : ∀ p is r, k is = some r → shD p r = r) : ShC (overG f k) := by
  intro P ds S d S' h
  unfold overG at h
  split at h
  · split at h
    · rename_i xs e1
      split at h
      · rename_i is e2
        split at h
        · rename_i r e3
          cases h
          simp [overG, lstD_sh e1, hf _ _ _ e2, e2, e3, hk _ _ _ e3]
        · cases h
      · cases h
    · cases h
  · cases h
theorem sh_min2 : ShC min2G := by
  intro P ds S d S' h
  unfold min2G at h
  split at h
  · cases h; simp [min2G, shD]
  · cases h
theorem sh_max2 : ShC max2G := by
  intro P ds S d S' h
  unfold max2G at h
  split at h
  · cases h; simp [max2G, shD]
  · cases h
theorem sh_least : ShC (overG intsOf leastI) := sh_overG (fun p ds is h => intsOf_sh p h) fun p is r h => by
  unfold leastI at h
  split at h
  · cases h
  · cases h; simp [shD]
theorem sh_most : ShC (overG intsOf mostI) := sh_overG (fun p ds is h => intsOf_sh p h) fun p is r h => by
  unfold mostI at h
  split at h
  · cases h
  · cases h; simp [shD]
theorem sh_sum : ShC (overG intsOf sumI) := sh_overG (fun p ds is h => intsOf_sh p h) fun p is r h => by cases h; simp [shD]
theorem blsOf_sh (p : Nat) {ds : List D} {is : List Bool} (h : blsOf ds = some is) : ds.map (shD p) = ds := by
  rw [blsOf_map h, List.map_map]; rfl
theorem sh_any : ShC (overG blsOf anyB) := sh_overG (fun p ds is h => blsOf_sh p h) fun p is r h => by cases h; simp [shD]
theorem sh_all : ShC (overG blsOf allB) := sh_overG (fun p ds is h => blsOf_sh p h) fun p is r h => by cases h; simp [shD]
theorem sh_minG : ShC (orG min2G (overG intsOf leastI)) := sh_orG sh_min2 sh_least fun P ds S e1 e2 => by
  unfold overG at e2
  split at e2
  · rename_i d
    simp only [List.map_cons, List.map_nil]
    cases shD (List.length P) d <;> rfl
  · cases e2
theorem sh_maxG : ShC (orG max2G (overG intsOf mostI)) := sh_orG sh_max2 sh_most fun P ds S e1 e2 => by
  unfold overG at e2
  split at e2
  · rename_i d
    simp only [List.map_cons, List.map_nil]
    cases shD (List.length P) d <;> rfl
  · cases e2
theorem sh_sorted1 : ShC sortedG := by
  intro P ds S d S' h
  unfold sortedG at h
  split at h
  · split at h
    · rename_i xs e
      split at h
      · rename_i hs
        cases h
        have e2 := lstD_sh (P := P) e
        rw [map_same (sortOk_flat _ hs)] at e2
        simp only [sortedG, List.map_cons, List.map_nil, e2, hs, if_true, Ex_len, shD, ← Ex_new, shO, sortD_sh _ hs]
      · cases h
    · cases h
  · cases h
theorem sh_sorted2 : ShC sortedDG := by
  intro P ds S d S' h
  unfold sortedDG at h
  split at h
  · rename_i n
    split at h
    · rename_i kvs e
      split at h
      · rename_i hs
        split at h
        · rename_i hk
          cases h
          have e3 : ((kvs.map (shE2 (List.length P))).map (·.1)) = kvs.map (·.1) := by
            rw [List.map_map]
            have := map_same (sortOk_flat (List.length P) hs)
            rw [List.map_map] at this
            exact this
          have e4 : ((kvs.map (shE2 (List.length P))).all fun e => (tkD e.1).isSome) = true := by
            rw [List.all_map]; simpa [Function.comp_def, tkD_sh] using hk
          simp only [sortedDG, List.map_cons, List.map_nil, shD, Ex_get, e, Option.map, shO, e3, hs, if_true, e4, Ex_len, ← Ex_new, sortD_sh _ hs]
        · cases h
      · cases h
    · cases h
  · cases h
theorem sh_sortedG : ShC (orG sortedG sortedDG) := sh_orG sh_sorted1 sh_sorted2 fun P ds S e1 e2 => by
  unfold sortedDG at e2
  split at e2
  · rename_i n
    split at e2
    · rename_i kvs e
      simp [sortedG, shD, lstD, Ex_get, e, shO]
    · cases e2
  · cases e2
theorem sh_dictG : ShC dictG := by
  intro P ds S d S' h
  unfold dictG at h
  split at h
  · split at h
    · rename_i xs e1
      split at h
      · rename_i ps e2
        split at h
        · rename_i hl
          split at h
          · rename_i hk
            cases h
            have e4 : ((ps.map (shE2 (List.length P))).all fun e => (tkD e.1).isSome) = true := by
              rw [List.all_map]; simpa [Function.comp_def, tkD_sh] using hk
            have e5 := putAll_sh (List.length P) ps []
            simp only [List.map_nil] at e5
            simp only [dictG, List.map_cons, List.map_nil, lstD_sh e1, pairsD_sh _ e2, List.length_map, hl, if_true, e4, e5, Ex_len, shD, ← Ex_new, shO]
          · cases h
        · cases h
      · cases h
    · cases h
  · cases h
theorem sh_reprG : ShC reprG := by
  intro P ds S d S' h
  unfold reprG at h
  split at h
  · cases h; simp [reprG, shD]
  · cases h; simp [reprG, shD]
  · split at h
    · rename_i hl
      cases h; simp [reprG, shD, hl]
    · cases h
  · cases h
theorem sh_sortSet {f : EV} (hf : ShE f) : ShE (sortSetE f) := by
  intro P σ S d S' h
  unfold sortSetE at h ⊢
  split at h
  · rename_i x S1 e1
    rw [hf P σ S _ _ e1]; dsimp only
    split at h
    · rename_i rs e2
      cases h
      obtain ⟨d, xs, hd, h2, h3, h4, h5⟩ := setG_inv e2
      cases hd
      have e3 := lstD_sh (P := P) h2
      rw [rowsI_map h3, rows_sh, ← rowsI_map h3] at e3
      have h6 : (rs.all fun r => !r.isEmpty) = true := by
        rw [List.all_eq_true]
        intro r hr
        have := h5 r hr
        cases r with
        | nil => exact absurd rfl this
        | cons => rfl
      have e4 : setG [shD (List.length P) x] (Ex P S1) = some rs := by
        simp only [setG, e3, h3, h4, if_true, h6]
      rw [e4]
      simp only [Ex_len, shD, ← Ex_new, shO, rows_sh]
    · cases h
  · cases h
end RF

end

/-! ## WU -/
section
set_option maxRecDepth 100000
/-! Methods, statements, loops, comprehensions, generators: the same behind any other store. -/
namespace RF
open PySem L2
theorem mkD_sh {P S : Store} {d : D} {k : MK} (h : mkD S d = some k) : mkD (Ex P S) (shD (List.length P) d) = some k := by
  unfold mkD at h
  split at h
  · split at h
    · rename_i e; cases h; simp [shD, mkD, Ex_get, e, shO]
    · rename_i e; cases h; simp [shD, mkD, Ex_get, e, shO]
    · rename_i e; cases h; simp [shD, mkD, Ex_get, e, shO]
    · cases h
  · cases h
def ShMo : Option GM → Prop
  | none => True
  | some g => ShM g
theorem sh_methE {gl gd : Option GM} {fo : EV} {fa : AV} (hl : ShMo gl) (hd : ShMo gd) (ho : ShE fo) (ha : ShA fa) : ShE (methE gl gd fo fa) := by
  intro P σ S d S' h
  unfold methE at h ⊢
  split at h
  · rename_i o S1 e1
    rw [ho P σ S _ _ e1]; dsimp only
    split at h
    · rename_i e2
      rw [mkD_sh e2]; dsimp only
      split at h
      · split at h
        · rename_i e3
          rw [ha P σ S1 _ _ e3]; dsimp only
          exact hl P _ _ _ _ _ h
        · cases h
      · cases h
    · rename_i e2
      rw [mkD_sh e2]; dsimp only
      split at h
      · split at h
        · rename_i e3
          rw [ha P σ S1 _ _ e3]; dsimp only
          exact hd P _ _ _ _ _ h
        · cases h
      · cases h
    · cases h
  · cases h
theorem sh_appendG : ShM appendG := by
  intro P o ds S d S' h
  unfold appendG at h
  split at h
  · split at h
    · rename_i e
      split at h
      · rename_i hl
        cases h
        simp [appendG, shD, Ex_get, e, shO, hl, ← Ex_set]
      · cases h
    · cases h
  · cases h
theorem map_dropLast {α β : Type} (f : α → β) : ∀ l : List α, (l.dropLast).map f = (l.map f).dropLast := fun l => by simp
theorem map_erase {α β : Type} (f : α → β) : ∀ (l : List α) (k : Nat), (l.eraseIdx k).map f = (l.map f).eraseIdx k := by
  intro l
  induction l with
  | nil => intro k; simp
  | cons a l ih => intro k; cases k <;> simp [ih]
theorem sh_popG : ShM popG := by
  intro P o ds S d S' h
  unfold popG at h
  split at h
  · split at h
    · rename_i n xs e
      split at h
      · rename_i x e2
        cases h
        have e3 : (xs.map (shD (List.length P)))[(xs.map (shD (List.length P))).length - 1]? = some (shD (List.length P) d) := by
          rw [List.length_map, List.getElem?_map, e2]; rfl
        simp only [popG, shD, List.map_nil, Ex_get, e, Option.map, shO, e3, ← Ex_set, map_dropLast]
      · cases h
    · cases h
  · split at h
    · rename_i n i xs e
      split at h
      · rename_i hr
        split at h
        · rename_i k e2
          split at h
          · rename_i x e3
            cases h
            have e4 : (xs.map (shD (List.length P)))[k]? = some (shD (List.length P) d) := by
              rw [List.getElem?_map, e3]; rfl
            simp only [popG, shD, List.map_cons, List.map_nil, Ex_get, e, Option.map, shO, hr, if_true, List.length_map, e2, e4, ← Ex_set, map_erase]
          · cases h
        · cases h
      · cases h
    · cases h
  · cases h
theorem sh_indexG : ShM indexG := by
  intro P o ds S d S' h
  unfold indexG at h
  split at h
  · split at h
    · rename_i n x xs e
      split at h
      · rename_i e2 e3
        split at h
        · rename_i e4
          cases h
          simp only [indexG, shD, List.map_cons, List.map_nil, Ex_get, e, Option.map, shO, py_sh, toPys_sh, e2, e3, e4]
        · cases h
      · cases h
    · cases h
  · cases h
theorem sh_dpopG : ShM dpopG := by
  intro P o ds S d S' h
  unfold dpopG at h
  split at h
  · split at h
    · rename_i n x kvs e
      split at h
      · rename_i hk
        split at h
        · rename_i e2
          cases h
          simp only [dpopG, shD, List.map_cons, List.map_nil, Ex_get, e, Option.map, shO, kindOk_sh, hk, if_true, lookD_sh, e2, ← Ex_set, dropD_sh]
        · cases h
      · cases h
    · cases h
  · cases h
/-! displays of dicts -/
theorem sh_dict0 : ShE dict0E := by
  intro P σ S d S' h
  cases h
  simp only [dict0E, Ex_len, shD, ← Ex_new, shO, List.map_nil]
theorem sh_disp1 {fk fv : EV} (hk : ShE fk) (hv : ShE fv) : ShE (disp1E fk fv) := by
  intro P σ S d S' h
  unfold disp1E at h ⊢
  have e0 : Ex P S ++ [O.dct []] = Ex P (S ++ [O.dct []]) := by rw [← Ex_new]; rfl
  rw [e0]
  split at h
  · rename_i a S1 e1
    rw [hk P σ _ _ _ e1]; dsimp only
    split at h
    · rename_i b S2 e2
      rw [hv P σ _ _ _ e2]; dsimp only
      split at h
      · rename_i e3
        split at h
        · rename_i hk
          cases h
          have e4 := putD_sh (List.length P) [] a b
          have e5 := kindOk_sh (List.length P) [] a
          simp only [List.map_nil] at e4 e5
          simp only [Ex_len, Ex_get, e3, Option.map, shO, List.map_nil, e5, hk, if_true, shD, e4]
          rw [← Ex_set]; rfl
        · cases h
      · cases h
    · cases h
  · cases h
def ShPr : List (EV × EV) → Prop
  | [] => True
  | e :: r => ShE e.1 ∧ ShE e.2 ∧ ShPr r
theorem sh_pairs : ∀ {prs : List (EV × EV)}, ShPr prs → ∀ (P : Store) (σ : Slots) (S : Store) (kvs : List (D × D)) (S' : Store), pairsE prs σ S = some (kvs, S') → pairsE prs (shσ (List.length P) σ) (Ex P S) = some (kvs.map (shE2 (List.length P)), Ex P S')
  | [], _, P, σ, S, kvs, S', h => by cases h; rfl
  | (fk, fv) :: r, hp, P, σ, S, kvs, S', h => by
    obtain ⟨h1, h2, h3⟩ := hp
    change ShE fk at h1
    change ShE fv at h2
    unfold pairsE at h ⊢
    split at h
    · rename_i a S1 e1
      rw [h1 P σ _ _ _ e1]; dsimp only
      split at h
      · rename_i b S2 e2
        rw [h2 P σ _ _ _ e2]; dsimp only
        split at h
        · rename_i e3
          cases h
          rw [sh_pairs h3 P σ _ _ _ e3]; rfl
        · cases h
      · cases h
    · cases h
theorem sh_disp {prs : List (EV × EV)} (hp : ShPr prs) : ShE (dispE prs) := by
  intro P σ S d S' h
  unfold dispE at h ⊢
  have e0 : Ex P S ++ [O.dct []] = Ex P (S ++ [O.dct []]) := by rw [← Ex_new]; rfl
  rw [e0]
  split at h
  · rename_i kvs S1 e1
    rw [sh_pairs hp P σ _ _ _ e1]; dsimp only
    split at h
    · rename_i hk
      split at h
      · rename_i e3
        cases h
        have e4 : ((kvs.map (shE2 (List.length P))).all fun e => (dKey e.1).isSome) = true := by
          rw [List.all_map]; simpa [Function.comp_def, dKey_sh] using hk
        have e5 := putAll_sh (List.length P) kvs []
        simp only [List.map_nil] at e5
        simp only [e4, if_true, Ex_len, Ex_get, e3, Option.map, shO, List.map_nil, shD, e5]
        rw [← Ex_set]; rfl
      · cases h
    · cases h
  · cases h
/-! targets -/
theorem sh_setV (i : Nat) : ShG (setV i) := by
  intro P d σ S σ' S' h
  cases h
  simp only [setV, shσ_set]
theorem sh_nilV : ShGs nilV := by
  intro P ds σ S σ' S' h
  unfold nilV at h
  split at h
  · cases h; rfl
  · cases h
theorem sh_consV {g : GV} {k : GVs} (hg : ShG g) (hk : ShGs k) : ShGs (consV g k) := by
  intro P ds σ S σ' S' h
  unfold consV at h ⊢
  split at h
  · simp only [List.map_cons]
    split at h
    · rename_i e1
      rw [hg P _ _ _ _ _ e1]; exact hk P _ _ _ _ _ h
    · cases h
  · cases h
theorem sh_unpack {n : Nat} {k : GVs} (hk : ShGs k) : ShG (unpackV n k) := by
  intro P d σ S σ' S' h
  unfold unpackV at h
  split at h
  · split at h
    · rename_i hl
      rw [sh_tup]
      simp only [unpackV, List.length_map, hl, if_true]
      exact hk P _ _ _ _ _ h
    · cases h
  · cases h
theorem ixN_len {n : Nat} {i : Int} {j : Nat} (h : ixN n i = some j) : True := trivial
theorem putS_sh {P : Store} {o i v : D} {S S' : Store} (h : putS o i v S = some S') : putS (shD (List.length P) o) (shD (List.length P) i) (shD (List.length P) v) (Ex P S) = some (Ex P S') := by
  unfold putS at h
  split at h
  · split at h
    · rename_i n kvs e
      split at h
      · rename_i hk
        split at h
        · rename_i hl
          cases h
          simp only [putS, shD, Ex_get, e, Option.map, shO, kindOk_sh, hk, if_true, List.length_map, hl, ← Ex_set, putD_sh]
        · cases h
      · cases h
    · rename_i n ds e
      split at h
      · split at h
        · rename_i e2
          cases h
          simp only [putS, shD, Ex_get, e, Option.map, shO, List.length_map, e2, ← Ex_set, List.map_set]
        · cases h
      · cases h
    · cases h
  · cases h
theorem sh_subV {fo fi : EV} (ho : ShE fo) (hi : ShE fi) : ShG (subV fo fi) := by
  intro P d σ S σ' S' h
  unfold subV at h ⊢
  split at h
  · rename_i o S1 e1
    rw [ho P σ _ _ _ e1]; dsimp only
    split at h
    · rename_i i S2 e2
      rw [hi P σ _ _ _ e2]; dsimp only
      split at h
      · rename_i e3
        cases h
        rw [putS_sh e3]
      · cases h
    · cases h
  · cases h
theorem delS_sh {P : Store} {o i : D} {S S' : Store} (h : delS o i S = some S') : delS (shD (List.length P) o) (shD (List.length P) i) (Ex P S) = some (Ex P S') := by
  unfold delS at h
  split at h
  · split at h
    · rename_i n kvs e
      split at h
      · rename_i hk
        split at h
        · rename_i hl
          cases h
          obtain ⟨x, hx⟩ := Option.isSome_iff_exists.mp hl
          simp only [delS, shD, Ex_get, e, Option.map, shO, kindOk_sh, hk, if_true, lookD_sh, hx, Option.isSome]
          rw [← Ex_set]
          simp only [shO, dropD_sh]
        · cases h
      · cases h
    · cases h
  · cases h
/-! sources -/
theorem srcD_sh {P S : Store} {d : D} {s : Src} (h : srcD S d = some s) : srcD (Ex P S) (shD (List.length P) d) = some (shSrc (List.length P) s) := by
  unfold srcD at h
  split at h
  · cases h; rw [sh_tup]; rfl
  · split at h
    · rename_i e; cases h; simp [shD, srcD, Ex_get, e, shO, shSrc]
    · rename_i e; cases h; simp [shD, srcD, Ex_get, e, shO, shSrc]
    · cases h
  · cases h
theorem sh_seqIV {f : EV} (hf : ShE f) : ShI (seqIV f) := by
  intro P σ S d S' h
  unfold seqIV at h ⊢
  split at h
  · rename_i x S1 e1
    rw [hf P σ _ _ _ e1]; dsimp only
    split at h
    · rename_i e2
      cases h
      rw [srcD_sh e2]
    · cases h
  · cases h
theorem sh_enumIV {f : EV} (hf : ShE f) : ShI (enumIV f) := by
  intro P σ S d S' h
  unfold enumIV at h ⊢
  split at h
  · rename_i x S1 e1
    rw [hf P σ _ _ _ e1]; dsimp only
    split at h
    · rename_i e2
      cases h
      rw [srcD_sh e2]; rfl
    · cases h
  · cases h
theorem sh_rng1 {f : AV} (hf : ShA f) : ShI (rng1IV f) := by
  intro P σ S d S' h
  unfold rng1IV at h ⊢
  split at h
  · rename_i e1
    split at h
    · rename_i hr
      cases h
      rw [hf P σ _ _ _ e1]; simp [shD, hr, shSrc]
    · cases h
  · cases h
theorem sh_rng2 {f : AV} (hf : ShA f) : ShI (rng2IV f) := by
  intro P σ S d S' h
  unfold rng2IV at h ⊢
  split at h
  · rename_i e1
    split at h
    · rename_i hr
      cases h
      rw [hf P σ _ _ _ e1]
      simp only [List.map_cons, List.map_nil, shD, hr, if_true, shSrc]
    · cases h
  · cases h
theorem sh_listRg {f : IV} (hf : ShI f) : ShE (listRg f) := by
  intro P σ S d S' h
  unfold listRg at h ⊢
  split at h
  · rename_i lo n S1 e1
    split at h
    · rename_i hl
      cases h
      rw [hf P σ _ _ _ e1]
      have : (rgL lo n).map (shD (List.length P)) = rgL lo n := by
        rw [rgL, List.map_map]; rfl
      simp only [shSrc, hl, if_true, Ex_len, shD, ← Ex_new, shO, this]
    · cases h
  · cases h
/-! comprehensions -/
theorem wipe_sh (p : Nat) (σ : Slots) : ∀ vs : List Nat, wipeD (shσ p σ) vs = shσ p (wipeD σ vs)
  | [] => rfl
  | v :: vs => by rw [wipeD, wipe_sh p σ vs, shσ_none]; rfl
theorem sh_lcL {src : Src} {g : GV} {tt : BV} {fe : EV} (hg : ShG g) (ht : ShB tt) (he : ShE fe) (P : Store) (σw : Slots) (k : Nat) : ∀ (n i : Nat) (S S' : Store), lcL src g tt fe σw k n i S = some S' →
    lcL (shSrc (List.length P) src) g tt fe (shσ (List.length P) σw) (List.length P + k) n i (Ex P S) = some (Ex P S')
  | 0, _, _, _, h => by cases h
  | n + 1, i, S, S', h => by
    unfold lcL at h ⊢
    rw [nextS_sh]
    split at h
    · cases h
    · rename_i e1
      cases h
      rw [e1]; rfl
    · rename_i d e1
      rw [e1]; dsimp only [Option.map]
      split at h
      · cases h
      · rename_i σ2 S2 e2
        rw [hg P _ _ _ _ _ e2]; dsimp only
        split at h
        · cases h
        · rename_i S3 e3
          rw [ht P _ _ _ _ e3]; dsimp only
          exact sh_lcL hg ht he P σw k n (i + 1) _ _ h
        · rename_i S3 e3
          rw [ht P _ _ _ _ e3]; dsimp only
          split at h
          · cases h
          · rename_i y S4 e4
            rw [he P _ _ _ _ e4]; dsimp only
            split at h
            · rename_i acc e5
              split at h
              · rename_i hl
                simp only [Ex_get, e5, Option.map, shO, List.length_map, hl, if_true]
                have := sh_lcL hg ht he P σw k n (i + 1) _ _ h
                rw [← Ex_set] at this
                simpa [shO] using this
              · cases h
            · cases h
theorem sh_lcE {fi : IV} {g : GV} {tt : BV} {fe : EV} {vs : List Nat} {n : Nat} (hi : ShI fi) (hg : ShG g) (ht : ShB tt) (he : ShE fe) : ShE (lcE fi g tt fe vs n) := by
  intro P σ S d S' h
  unfold lcE at h ⊢
  split at h
  · rename_i src S1 e1
    rw [hi P _ _ _ _ e1]; dsimp only
    split at h
    · rename_i S2 e2
      cases h
      have := sh_lcL hg ht he P _ _ _ _ _ _ e2
      rw [← wipe_sh, ← Ex_new] at this
      rw [Ex_len, show O.lst [] = shO (List.length P) (O.lst []) from rfl, this]
      simp [shD]
    · cases h
  · cases h
theorem sh_dcL {src : Src} {g : GV} {tt : BV} {fk fv : EV} (hg : ShG g) (ht : ShB tt) (hk : ShE fk) (hv : ShE fv) (P : Store) (σw : Slots) (k : Nat) : ∀ (n i : Nat) (S S' : Store), dcL src g tt fk fv σw k n i S = some S' →
    dcL (shSrc (List.length P) src) g tt fk fv (shσ (List.length P) σw) (List.length P + k) n i (Ex P S) = some (Ex P S')
  | 0, _, _, _, h => by cases h
  | n + 1, i, S, S', h => by
    unfold dcL at h ⊢
    rw [nextS_sh]
    split at h
    · cases h
    · rename_i e1
      cases h
      rw [e1]; rfl
    · rename_i d e1
      rw [e1]; dsimp only [Option.map]
      split at h
      · cases h
      · rename_i σ2 S2 e2
        rw [hg P _ _ _ _ _ e2]; dsimp only
        split at h
        · cases h
        · rename_i S3 e3
          rw [ht P _ _ _ _ e3]; dsimp only
          exact sh_dcL hg ht hk hv P σw k n (i + 1) _ _ h
        · rename_i S3 e3
          rw [ht P _ _ _ _ e3]; dsimp only
          split at h
          · cases h
          · rename_i y S4 e4
            rw [hk P _ _ _ _ e4]; dsimp only
            split at h
            · cases h
            · rename_i z S5 e5
              rw [hv P _ _ _ _ e5]; dsimp only
              split at h
              · rename_i acc e6
                split at h
                · rename_i hl
                  split at h
                  · rename_i hko
                    simp only [Ex_get, e6, Option.map, shO, List.length_map, hl, if_true, kindOk_sh, hko]
                    have := sh_dcL hg ht hk hv P σw k n (i + 1) _ _ h
                    rw [← Ex_set] at this
                    simpa [shO, putD_sh] using this
                  · cases h
                · cases h
              · cases h
theorem sh_dcE {fi : IV} {g : GV} {tt : BV} {fk fv : EV} {vs : List Nat} {n : Nat} (hi : ShI fi) (hg : ShG g) (ht : ShB tt) (hk : ShE fk) (hv : ShE fv) : ShE (dcE fi g tt fk fv vs n) := by
  intro P σ S d S' h
  unfold dcE at h ⊢
  split at h
  · rename_i src S1 e1
    rw [hi P _ _ _ _ e1]; dsimp only
    split at h
    · rename_i S2 e2
      cases h
      have := sh_dcL hg ht hk hv P _ _ _ _ _ _ e2
      rw [← wipe_sh, ← Ex_new] at this
      rw [Ex_len, show O.dct [] = shO (List.length P) (O.dct []) from rfl, this]
      simp [shD]
    · cases h
  · cases h
/-! generators -/
theorem sh_pullV {src : Src} {g : GV} {tt : BV} {fe : EV} (hg : ShG g) (ht : ShB tt) (he : ShE fe) (P : Store) : ∀ (n i : Nat) (σ : Slots) (S : Store) (r : Option (D × Nat × Slots)) (S' : Store), pullV src g tt fe n i σ S = some (r, S') →
    pullV (shSrc (List.length P) src) g tt fe n i (shσ (List.length P) σ) (Ex P S) = some (r.map (fun q => (shD (List.length P) q.1, q.2.1, shσ (List.length P) q.2.2)), Ex P S')
  | 0, _, _, _, _, _, h => by cases h
  | n + 1, i, σ, S, r, S', h => by
    unfold pullV at h ⊢
    rw [nextS_sh]
    split at h
    · cases h
    · rename_i e1
      cases h
      rw [e1]; rfl
    · rename_i d e1
      rw [e1]; dsimp only [Option.map]
      split at h
      · cases h
      · rename_i σ1 S1 e2
        rw [hg P _ _ _ _ _ e2]; dsimp only
        split at h
        · cases h
        · rename_i S2 e3
          rw [ht P _ _ _ _ e3]; dsimp only
          exact sh_pullV hg ht he P n (i + 1) _ _ _ _ h
        · rename_i S2 e3
          rw [ht P _ _ _ _ e3]; dsimp only
          split at h
          · cases h
          · rename_i y S3 e4
            cases h
            rw [he P _ _ _ _ e4]
def shGn (p : Nat) (G : Gn) : Gn := ⟨shSrc p G.src, G.g, G.tt, G.fe, G.lf⟩
structure ShGn (G : Gn) : Prop where
  g : ShG G.g
  t : ShB G.tt
  e : ShE G.fe
theorem sh_pull {G : Gn} (h : ShGn G) (P : Store) (i : Nat) (σ : Slots) (S : Store) (r : Option (D × Nat × Slots)) (S' : Store) (e : G.pull i σ S = some (r, S')) : (shGn (List.length P) G).pull i (shσ (List.length P) σ) (Ex P S) = some (r.map (fun q => (shD (List.length P) q.1, q.2.1, shσ (List.length P) q.2.2)), Ex P S') :=
  sh_pullV h.g h.t h.e P _ _ _ _ _ _ e
def ShEat (eat : Gn → Slots → Store → Option (D × Store)) : Prop := ∀ (G : Gn), ShGn G → ∀ (P : Store) (σ : Slots) (S : Store) (d : D) (S' : Store), eat G σ S = some (d, S') → eat (shGn (List.length P) G) (shσ (List.length P) σ) (Ex P S) = some (shD (List.length P) d, Ex P S')
theorem sh_anyG {G : Gn} (hG : ShGn G) (P : Store) : ∀ (m i : Nat) (σ : Slots) (S : Store) (b : Bool) (S' : Store), anyG G m i σ S = some (b, S') → anyG (shGn (List.length P) G) m i (shσ (List.length P) σ) (Ex P S) = some (b, Ex P S')
  | 0, _, _, _, _, _, h => by cases h
  | m + 1, i, σ, S, b, S', h => by
    unfold anyG at h ⊢
    split at h
    · cases h
    · rename_i e; cases h; rw [sh_pull hG P _ _ _ _ _ e]; rfl
    · rename_i y i' σ' S1 e
      rw [sh_pull hG P _ _ _ _ _ e]; dsimp only [Option.map]
      split at h
      · cases h; simp only [shD]
      · simp only [shD]; exact sh_anyG hG P m _ _ _ _ _ h
      · cases h
theorem sh_allG {G : Gn} (hG : ShGn G) (P : Store) : ∀ (m i : Nat) (σ : Slots) (S : Store) (b : Bool) (S' : Store), allG G m i σ S = some (b, S') → allG (shGn (List.length P) G) m i (shσ (List.length P) σ) (Ex P S) = some (b, Ex P S')
  | 0, _, _, _, _, _, h => by cases h
  | m + 1, i, σ, S, b, S', h => by
    unfold allG at h ⊢
    split at h
    · cases h
    · rename_i e; cases h; rw [sh_pull hG P _ _ _ _ _ e]; rfl
    · rename_i y i' σ' S1 e
      rw [sh_pull hG P _ _ _ _ _ e]; dsimp only [Option.map]
      split at h
      · cases h; simp only [shD]
      · simp only [shD]; exact sh_allG hG P m _ _ _ _ _ h
      · cases h
theorem sh_sumG {G : Gn} (hG : ShGn G) (P : Store) : ∀ (m : Nat) (a : Int) (i : Nat) (σ : Slots) (S : Store) (b : Int) (S' : Store), sumG G m a i σ S = some (b, S') → sumG (shGn (List.length P) G) m a i (shσ (List.length P) σ) (Ex P S) = some (b, Ex P S')
  | 0, _, _, _, _, _, _, h => by cases h
  | m + 1, a, i, σ, S, b, S', h => by
    unfold sumG at h ⊢
    split at h
    · cases h
    · rename_i e; cases h; rw [sh_pull hG P _ _ _ _ _ e]; rfl
    · rename_i y i' σ' S1 e
      rw [sh_pull hG P _ _ _ _ _ e]; dsimp only [Option.map]
      split at h
      · split at h
        · rename_i hl
          simp only [shD, hl, if_true]; exact sh_sumG hG P m _ _ _ _ _ _ h
        · cases h
      · cases h
theorem sh_colG {G : Gn} (hG : ShGn G) (P : Store) : ∀ (m : Nat) (ys : List D) (i : Nat) (σ : Slots) (S : Store) (b : List D) (S' : Store), colG G m ys i σ S = some (b, S') → colG (shGn (List.length P) G) m (ys.map (shD (List.length P))) i (shσ (List.length P) σ) (Ex P S) = some (b.map (shD (List.length P)), Ex P S')
  | 0, _, _, _, _, _, _, h => by cases h
  | m + 1, ys, i, σ, S, b, S', h => by
    unfold colG at h ⊢
    split at h
    · cases h
    · rename_i e; cases h; rw [sh_pull hG P _ _ _ _ _ e]; rfl
    · rename_i y i' σ' S1 e
      rw [sh_pull hG P _ _ _ _ _ e]; dsimp only [Option.map]
      split at h
      · rename_i hl
        simp only [List.length_map, hl, if_true]
        have := sh_colG hG P m _ _ _ _ _ _ h
        rw [List.map_append] at this
        exact this
      · cases h
theorem sh_eatAny (lf : Nat) : ShEat (eatAny lf) := by
  intro G hG P σ S d S' h
  unfold eatAny at h ⊢
  split at h
  · rename_i e
    cases h
    rw [sh_anyG hG P _ _ _ _ _ _ e]; simp [shD]
  · cases h
theorem sh_eatAll (lf : Nat) : ShEat (eatAll lf) := by
  intro G hG P σ S d S' h
  unfold eatAll at h ⊢
  split at h
  · rename_i e
    cases h
    rw [sh_allG hG P _ _ _ _ _ _ e]; simp [shD]
  · cases h
theorem sh_eatSum (lf : Nat) : ShEat (eatSum lf) := by
  intro G hG P σ S d S' h
  unfold eatSum at h ⊢
  split at h
  · rename_i e
    cases h
    rw [sh_sumG hG P _ _ _ _ _ _ _ e]; simp [shD]
  · cases h
theorem sh_eatTup (lf : Nat) : ShEat (eatTup lf) := by
  intro G hG P σ S d S' h
  unfold eatTup at h ⊢
  split at h
  · rename_i e
    cases h
    have := sh_colG hG P _ _ _ _ _ _ _ e
    rw [List.map_nil] at this
    rw [this, sh_tup]
  · cases h
theorem cap_sh (p : Nat) (caps : List (Option Nat)) (σ : Slots) : capD caps (shσ p σ) = shσ p (capD caps σ) := by
  unfold capD shσ
  rw [List.map_map]
  apply List.map_congr_left
  intro o _
  cases o with
  | none => rfl
  | some k =>
    simp only [Function.comp_def, List.getElem?_map]
    cases σ[k]? <;> rfl
theorem sh_genE {fi : IV} {caps : List (Option Nat)} {g : GV} {tt : BV} {fe : EV} {lf : Nat} {eat : Gn → Slots → Store → Option (D × Store)} (hi : ShI fi) (hg : ShG g) (ht : ShB tt) (he : ShE fe) (hx : ShEat eat) : ShE (genE fi caps g tt fe lf eat) := by
  intro P σ S d S' h
  unfold genE at h ⊢
  split at h
  · rename_i src S1 e1
    rw [hi P _ _ _ _ e1]; dsimp only
    have := hx ⟨src, g, tt, fe, lf⟩ ⟨hg, ht, he⟩ P _ _ _ _ h
    rw [cap_sh]
    exact this
  · cases h
/-! statements -/
theorem sh_pass : ShV passV := fun P σ S r σ' S' h => by cases h; rfl
theorem sh_break : ShV breakV := fun P σ S r σ' S' h => by cases h; rfl
theorem sh_cont : ShV contV := fun P σ S r σ' S' h => by cases h; rfl
theorem sh_retN : ShV retNV := fun P σ S r σ' S' h => by cases h; simp [retNV, shFl, shD]
theorem sh_ret {f : EV} (hf : ShE f) : ShV (retV f) := by
  intro P σ S r σ' S' h
  unfold retV at h ⊢
  split at h
  · rename_i e
    cases h
    rw [hf P _ _ _ _ e]; rfl
  · cases h
theorem sh_drop {f : EV} (hf : ShE f) : ShV (dropV f) := by
  intro P σ S r σ' S' h
  unfold dropV at h ⊢
  split at h
  · rename_i e
    cases h
    rw [hf P _ _ _ _ e]; rfl
  · cases h
theorem sh_seqV {f g : SV} (hf : ShV f) (hg : ShV g) : ShV (seqV f g) := by
  intro P σ S r σ' S' h
  unfold seqV at h ⊢
  split at h
  · rename_i e
    rw [hf P _ _ _ _ _ e]; exact hg P _ _ _ _ _ h
  · rename_i hne
    have e := hf P _ _ _ _ _ h
    rw [e]
    cases r with
    | nx => exact (hne _ _ h).elim
    | _ => rfl
theorem sh_ifV {t : BV} {f g : SV} (ht : ShB t) (hf : ShV f) (hg : ShV g) : ShV (ifV t f g) := by
  intro P σ S r σ' S' h
  unfold ifV at h ⊢
  split at h
  · rename_i e
    rw [ht P _ _ _ _ e]; exact hf P _ _ _ _ _ h
  · rename_i e
    rw [ht P _ _ _ _ e]; exact hg P _ _ _ _ _ h
  · cases h
theorem sh_while {t : BV} {b : SV} (ht : ShB t) (hb : ShV b) : ∀ n : Nat, ShV (whileV t b n)
  | 0 => fun P σ S r σ' S' h => by cases h
  | n + 1 => by
    intro P σ S r σ' S' h
    unfold whileV at h ⊢
    split at h
    · rename_i e
      cases h
      rw [ht P _ _ _ _ e]; rfl
    · rename_i S1 e
      rw [ht P _ _ _ _ e]; dsimp only
      split at h
      · rename_i e2
        rw [hb P _ _ _ _ _ e2]; exact sh_while ht hb n P _ _ _ _ _ h
      · rename_i e2
        rw [hb P _ _ _ _ _ e2]; exact sh_while ht hb n P _ _ _ _ _ h
      · rename_i e2
        cases h
        rw [hb P _ _ _ _ _ e2]; rfl
      · rename_i e2
        cases h
        rw [hb P _ _ _ _ _ e2]; rfl
      · cases h
    · cases h
theorem sh_forV {g : GV} {b : SV} (hg : ShG g) (hb : ShV b) (src : Src) (P : Store) : ∀ (n i : Nat) (σ : Slots) (S : Store) (r : Fl) (σ' : Slots) (S' : Store), forV src g b n i σ S = some (r, σ', S') → forV (shSrc (List.length P) src) g b n i (shσ (List.length P) σ) (Ex P S) = some (shFl (List.length P) r, shσ (List.length P) σ', Ex P S')
  | 0, _, _, _, _, _, _, h => by cases h
  | n + 1, i, σ, S, r, σ', S', h => by
    unfold forV at h ⊢
    rw [nextS_sh]
    split at h
    · cases h
    · rename_i e1
      cases h
      rw [e1]; rfl
    · rename_i d e1
      rw [e1]; dsimp only [Option.map]
      split at h
      · cases h
      · rename_i e2
        rw [hg P _ _ _ _ _ e2]; dsimp only
        split at h
        · rename_i e3
          rw [hb P _ _ _ _ _ e3]; exact sh_forV hg hb src P n _ _ _ _ _ _ h
        · rename_i e3
          rw [hb P _ _ _ _ _ e3]; exact sh_forV hg hb src P n _ _ _ _ _ _ h
        · rename_i e3
          cases h
          rw [hb P _ _ _ _ _ e3]; rfl
        · rename_i e3
          cases h
          rw [hb P _ _ _ _ _ e3]; rfl
        · cases h
theorem sh_forIV {fi : IV} {g : GV} {b : SV} {n : Nat} (hi : ShI fi) (hg : ShG g) (hb : ShV b) : ShV (forIV fi g b n) := by
  intro P σ S r σ' S' h
  unfold forIV at h ⊢
  split at h
  · rename_i e
    rw [hi P _ _ _ _ e]; exact sh_forV hg hb _ P _ _ _ _ _ _ _ h
  · cases h
theorem sh_asgV {f : EV} {g : GV} (hf : ShE f) (hg : ShG g) : ShV (asgV f g) := by
  intro P σ S r σ' S' h
  unfold asgV at h ⊢
  split at h
  · rename_i e
    rw [hf P _ _ _ _ e]; dsimp only
    split at h
    · rename_i e2
      cases h
      rw [hg P _ _ _ _ _ e2]; rfl
    · cases h
  · cases h
theorem sh_parV {i j : Nat} {fa : AV} (ha : ShA fa) : ShV (parV i j fa) := by
  intro P σ S r σ' S' h
  unfold parV at h ⊢
  split at h
  · rename_i e
    cases h
    rw [ha P _ _ _ _ e]
    simp only [List.map_cons, List.map_nil, shσ_set, shFl]
  · cases h
theorem sh_par3V {i j l : Nat} {fa : AV} (ha : ShA fa) : ShV (par3V i j l fa) := by
  intro P σ S r σ' S' h
  unfold par3V at h ⊢
  split at h
  · rename_i e
    cases h
    rw [ha P _ _ _ _ e]
    simp only [List.map_cons, List.map_nil, shσ_set, shFl]
  · cases h
theorem sh_augV {i : Nat} {op : Operator} {f : EV} (hf : ShE f) : ShV (augV i op f) := by
  intro P σ S r σ' S' h
  unfold augV at h ⊢
  split at h
  · rename_i x e0
    have e0' : (shσ (List.length P) σ)[i]? = some (some (shD (List.length P) x)) := by simp [shσ, e0]
    rw [e0']; dsimp only
    split at h
    · rename_i e
      rw [hf P _ _ _ _ e]; dsimp only
      split at h
      · rename_i e2
        cases h
        rw [sh_iop op P _ _ _ _ _ e2]
        simp only [shσ_set, shFl]
      · cases h
    · cases h
  · cases h
theorem sh_delV {fo fi : EV} (ho : ShE fo) (hi : ShE fi) : ShV (delV fo fi) := by
  intro P σ S r σ' S' h
  unfold delV at h ⊢
  split at h
  · rename_i o S1 e1
    rw [ho P σ _ _ _ e1]; dsimp only
    split at h
    · rename_i i S2 e2
      rw [hi P σ _ _ _ e2]; dsimp only
      split at h
      · rename_i e3
        cases h
        rw [delS_sh e3]; rfl
      · cases h
    · cases h
  · cases h
theorem sh_runM {np n : Nat} {b : SV} (hb : ShV b) : ShC (runM np n b) := by
  intro P ds S d S' h
  unfold runM at h ⊢
  rw [List.length_map]
  split at h
  · rename_i hl
    rw [if_pos hl]
    have es : (ds.map (shD (List.length P))).map some ++ List.replicate (n - ds.length) none = shσ (List.length P) (ds.map some ++ List.replicate (n - ds.length) none) := by
      simp [shσ, Function.comp_def]
    rw [es]
    split at h
    · rename_i e
      cases h
      rw [hb P _ _ _ _ _ e]; rfl
    · rename_i e
      cases h
      rw [hb P _ _ _ _ _ e]; simp [shFl, shD]
    · cases h
  · cases h
/-- a closed call, once for all stores -/
theorem lift {g : GC} (hg : ShC g) {ds : List D} {d : D} {E : Store} (hd : ∀ p, shD p d = d) (hs : ∀ p, ds.map (shD p) = ds) (e : g ds [] = some (d, E)) (S : Store) : ∃ E', g ds S = some (d, S ++ E') := by
  have := hg S ds [] d E e
  rw [hs, hd] at this
  have e0 : Ex S [] = S := by simp [Ex, shS]
  rw [e0] at this
  exact ⟨_, this⟩
theorem sh_ite {c : Prop} [Decidable c] {f g : EV} (hf : ShE f) (hg : ShE g) : ShE (if c then f else g) := by split <;> assumption
end RF

end

/-! ## WB -/
section
set_option maxRecDepth 100000
/-! From the end back: rules. -/
namespace RF
open PySem L2
def W {α : Type} (o : Option α) (Q : α → Prop) : Prop := ∃ a, o = some a ∧ Q a
section
variable {α : Type} {a : α} {o : Option α} {Q R : α → Prop}
@[simp] theorem W_some : W (some a) Q ↔ Q a := by simp [W]
@[simp] theorem W_none : W (none : Option α) Q ↔ False := by simp [W]
theorem W.imp (h : W o Q) (k : ∀ a, Q a → R a) : W o R := let ⟨a, e, q⟩ := h; ⟨a, e, k a q⟩
theorem W.eq (h : W o Q) : ∃ a, o = some a ∧ Q a := h
theorem W.of (e : o = some a) (q : Q a) : W o Q := ⟨a, e, q⟩
end
variable {σ : Slots} {S : Store}
@[simp] theorem w_slot {i : Nat} {Q : D × Store → Prop} : W (slotE i σ S) Q ↔ ∃ d, σ[i]? = some (some d) ∧ Q (d, S) := by
  unfold slotE
  split
  · rename_i d e; simp [e]
  · rename_i h
    simp only [W_none, false_iff]
    rintro ⟨d, e, _⟩
    exact h d e
@[simp] theorem w_val {d : D} {Q : D × Store → Prop} : W (valE d σ S) Q ↔ Q (d, S) := by simp [valE]
@[simp] theorem w_bind2 {g : G2} {fa fb : EV} {Q : D × Store → Prop} : W (bind2 g fa fb σ S) Q ↔ W (fa σ S) fun p => W (fb σ p.2) fun q => W (g p.1 q.1 q.2) Q := by
  unfold bind2
  cases fa σ S with
  | none => simp
  | some p => cases h : fb σ p.2 <;> simp [h]
@[simp] theorem w_intD {C : Int → Int → Bool} {h : Int → Int → D} {i j : Int} {Q : D × Store → Prop} : W (intD C h (.int i) (.int j) S) Q ↔ C i j = true ∧ Q (h i j, S) := by
  unfold intD
  by_cases c : C i j = true <;> simp [c]
@[simp] theorem w_add_int {i j : Int} {Q : D × Store → Prop} : W (addD (.int i) (.int j) S) Q ↔ Q (.int (i + j), S) := by simp [addD]
theorem w_add_lst {n m : Nat} {a b : List D} {Q : D × Store → Prop} (h1 : (S : List O)[n]? = some (.lst a)) (h2 : (S : List O)[m]? = some (.lst b)) (hl : a.length + b.length ≤ most) (q : Q (.loc (List.length S), S ++ [.lst (a ++ b)])) : W (addD (.loc n) (.loc m) S) Q := by
  simp [addD, h1, h2, hl, q]
@[simp] theorem w_bin_add {x y : D} {Q : D × Store → Prop} : W (binD .Add x y S) Q ↔ W (addD x y S) Q := Iff.rfl
@[simp] theorem w_bin_sub {i j : Int} {Q : D × Store → Prop} : W (binD .Sub (.int i) (.int j) S) Q ↔ Q (.int (i - j), S) := by simp [binD]
@[simp] theorem w_bin_mul {i j : Int} {Q : D × Store → Prop} : W (binD .Mult (.int i) (.int j) S) Q ↔ (i.natAbs < 2 ^ 64 ∨ j.natAbs < 2 ^ 64) ∧ Q (.int (i * j), S) := by simp [binD]
@[simp] theorem w_bin_fdiv {i j : Int} {Q : D × Store → Prop} : W (binD .FloorDiv (.int i) (.int j) S) Q ↔ (j ≠ 0 ∧ j.natAbs < 1073741824) ∧ Q (.int (i.fdiv j), S) := by simp [binD]
@[simp] theorem w_bin_mod {i j : Int} {Q : D × Store → Prop} : W (binD .Mod (.int i) (.int j) S) Q ↔ j ≠ 0 ∧ Q (.int (i.fmod j), S) := by simp [binD]
@[simp] theorem w_cmp_lt {i j : Int} {Q : D × Store → Prop} : W (cmpD .Lt (.int i) (.int j) S) Q ↔ Q (.bl (decide (i < j)), S) := by simp [cmpD]
@[simp] theorem w_cmp_le {i j : Int} {Q : D × Store → Prop} : W (cmpD .LtE (.int i) (.int j) S) Q ↔ Q (.bl (decide (i ≤ j)), S) := by simp [cmpD]
@[simp] theorem w_cmp_gt {i j : Int} {Q : D × Store → Prop} : W (cmpD .Gt (.int i) (.int j) S) Q ↔ Q (.bl (decide (j < i)), S) := by simp [cmpD]
@[simp] theorem w_cmp_ge {i j : Int} {Q : D × Store → Prop} : W (cmpD .GtE (.int i) (.int j) S) Q ↔ Q (.bl (decide (j ≤ i)), S) := by simp [cmpD]
def blK (Q : Bool × Store → Prop) : D × Store → Prop
  | (.bl b, S) => Q (b, S)
  | _ => False
@[simp] theorem blK_bl {b : Bool} {Q : Bool × Store → Prop} : blK Q (.bl b, S) ↔ Q (b, S) := Iff.rfl
def trK (Q : Bool × Store → Prop) (p : D × Store) : Prop := match truD p.2 p.1 with
  | some b => Q (b, p.2)
  | none => False
@[simp] theorem trK_bl {b : Bool} {Q : Bool × Store → Prop} : trK Q (.bl b, S) ↔ Q (b, S) := by simp [trK, truD]
@[simp] theorem trK_int {i : Int} {Q : Bool × Store → Prop} : trK Q (.int i, S) ↔ Q (i != 0, S) := by simp [trK, truD]
def inK (Q : Int × Store → Prop) : D × Store → Prop
  | (.int b, S) => Q (b, S)
  | _ => False
@[simp] theorem inK_int {b : Int} {Q : Int × Store → Prop} : inK Q (.int b, S) ↔ Q (b, S) := Iff.rfl
@[simp] theorem w_cmpB {f : EV} {Q : Bool × Store → Prop} : W (cmpB f σ S) Q ↔ W (f σ S) (blK Q) := by
  unfold cmpB
  cases f σ S with
  | none => simp
  | some p => obtain ⟨d, S1⟩ := p; cases d <;> simp [blK]
@[simp] theorem w_truE {f : EV} {Q : Bool × Store → Prop} : W (truE f σ S) Q ↔ W (f σ S) (trK Q) := by
  unfold truE
  cases f σ S with
  | none => simp
  | some p => cases h : truD p.2 p.1 <;> simp [h, trK]
@[simp] theorem w_notB {f : BV} {Q : Bool × Store → Prop} : W (notB f σ S) Q ↔ W (f σ S) fun p => Q (!p.1, p.2) := by
  unfold notB
  cases f σ S <;> simp
@[simp] theorem w_andB {f g : BV} {Q : Bool × Store → Prop} : W (andB f g σ S) Q ↔ W (f σ S) fun p => (p.1 = true → W (g σ p.2) Q) ∧ (p.1 = false → Q (false, p.2)) := by
  unfold andB
  cases f σ S with
  | none => simp
  | some p => obtain ⟨b, S1⟩ := p; cases b <;> simp
@[simp] theorem w_orB {f g : BV} {Q : Bool × Store → Prop} : W (orB f g σ S) Q ↔ W (f σ S) fun p => (p.1 = true → Q (true, p.2)) ∧ (p.1 = false → W (g σ p.2) Q) := by
  unfold orB
  cases f σ S with
  | none => simp
  | some p => obtain ⟨b, S1⟩ := p; cases b <;> simp
@[simp] theorem w_andE {f g : EV} {Q : D × Store → Prop} : W (andE f g σ S) Q ↔ W (f σ S) fun p => trK (fun b => (b.1 = true → W (g σ p.2) Q) ∧ (b.1 = false → Q p)) p := by
  unfold andE
  cases f σ S with
  | none => simp
  | some p => obtain ⟨d, S1⟩ := p; cases h : truD S1 d with
    | none => simp [h, trK]
    | some b => cases b <;> simp [h, trK]
@[simp] theorem w_notE {f : EV} {Q : D × Store → Prop} : W (notE f σ S) Q ↔ W (f σ S) (trK fun b => Q (.bl (!b.1), b.2)) := by
  unfold notE
  cases f σ S with
  | none => simp
  | some p => obtain ⟨d, S1⟩ := p; cases h : truD S1 d <;> simp [h, trK]
@[simp] theorem w_negE {f : EV} {Q : D × Store → Prop} : W (negE f σ S) Q ↔ W (f σ S) (inK fun p => Q (.int (-p.1), p.2)) := by
  unfold negE
  cases f σ S with
  | none => simp
  | some p => obtain ⟨d, S1⟩ := p; cases d <;> simp [inK]
@[simp] theorem w_ifE {t : BV} {f g : EV} {Q : D × Store → Prop} : W (ifE t f g σ S) Q ↔ W (t σ S) fun p => (p.1 = true → W (f σ p.2) Q) ∧ (p.1 = false → W (g σ p.2) Q) := by
  unfold ifE
  cases t σ S with
  | none => simp
  | some p => obtain ⟨b, S1⟩ := p; cases b <;> simp
@[simp] theorem w_nilA {Q : List D × Store → Prop} : W (nilA σ S) Q ↔ Q ([], S) := by simp [nilA]
@[simp] theorem w_consA {f : EV} {g : AV} {Q : List D × Store → Prop} : W (consA f g σ S) Q ↔ W (f σ S) fun p => W (g σ p.2) fun q => Q (p.1 :: q.1, q.2) := by
  unfold consA
  cases f σ S with
  | none => simp
  | some p => cases h : g σ p.2 <;> simp [h]
@[simp] theorem w_tupE {g : AV} {Q : D × Store → Prop} : W (tupE g σ S) Q ↔ W (g σ S) fun p => p.1.length ≤ most ∧ Q (.tup p.1, p.2) := by
  unfold tupE
  cases g σ S with
  | none => simp
  | some p => by_cases h : p.1.length ≤ most <;> simp [h]
@[simp] theorem w_lstE {g : AV} {Q : D × Store → Prop} : W (lstE g σ S) Q ↔ W (g σ S) fun p => p.1.length ≤ most ∧ Q (.loc (List.length p.2), p.2 ++ [.lst p.1]) := by
  unfold lstE
  cases g σ S with
  | none => simp
  | some p => by_cases h : p.1.length ≤ most <;> simp [h]
@[simp] theorem w_callE {g : GC} {fa : AV} {Q : D × Store → Prop} : W (callE g fa σ S) Q ↔ W (fa σ S) fun p => W (g p.1 p.2) Q := by
  unfold callE
  cases fa σ S <;> simp
@[simp] theorem w_noP {Q : Option Int × Store → Prop} : W (noP σ S) Q ↔ Q (none, S) := by simp [noP]
@[simp] theorem w_someP {f : EV} {Q : Option Int × Store → Prop} : W (someP f σ S) Q ↔ W (f σ S) (inK fun p => Q (some p.1, p.2)) := by
  unfold someP
  cases f σ S with
  | none => simp
  | some p => obtain ⟨d, S1⟩ := p; cases d <;> simp [inK]
@[simp] theorem w_sliceE {f : EV} {lo hi : PV} {Q : D × Store → Prop} : W (sliceE f lo hi σ S) Q ↔ W (f σ S) fun p => W (lo σ p.2) fun l => W (hi σ l.2) fun h => W (sliceD p.1 l.1 h.1 h.2) Q := by
  unfold sliceE
  cases f σ S with
  | none => simp
  | some p => cases h : lo σ p.2 with
    | none => simp [h]
    | some l => cases h2 : hi σ l.2 <;> simp [h, h2]
@[simp] theorem w_setV {i : Nat} {d : D} {Q : Slots × Store → Prop} : W (setV i d σ S) Q ↔ Q (List.set σ i (some d), S) := by simp [setV]
@[simp] theorem w_nilV {Q : Slots × Store → Prop} : W (nilV [] σ S) Q ↔ Q (σ, S) := by simp [nilV]
@[simp] theorem w_consV {g : GV} {h : GVs} {d : D} {r : List D} {Q : Slots × Store → Prop} : W (consV g h (d :: r) σ S) Q ↔ W (g d σ S) fun p => W (h r p.1 p.2) Q := by
  unfold consV
  dsimp only
  cases hg : g d σ S <;> simp
@[simp] theorem w_unpack {n : Nat} {h : GVs} {ds : List D} {Q : Slots × Store → Prop} : W (unpackV n h (.tup ds) σ S) Q ↔ ds.length = n ∧ W (h ds σ S) Q := by
  unfold unpackV
  by_cases c : ds.length = n <;> simp [c]
@[simp] theorem w_asgV {f : EV} {g : GV} {Q : Fl × Slots × Store → Prop} : W (asgV f g σ S) Q ↔ W (f σ S) fun p => W (g p.1 σ p.2) fun q => Q (.nx, q.1, q.2) := by
  unfold asgV
  cases f σ S with
  | none => simp
  | some p => cases h : g p.1 σ p.2 <;> simp [h]
def parK (i j : Nat) (σ : Slots) (Q : Fl × Slots × Store → Prop) : List D × Store → Prop
  | ([x, y], S) => Q (.nx, List.set (List.set σ i (some x)) j (some y), S)
  | _ => False
@[simp] theorem parK_two {i j : Nat} {x y : D} {Q : Fl × Slots × Store → Prop} : parK i j σ Q ([x, y], S) ↔ Q (.nx, List.set (List.set σ i (some x)) j (some y), S) := Iff.rfl
def par3K (i j l : Nat) (σ : Slots) (Q : Fl × Slots × Store → Prop) : List D × Store → Prop
  | ([x, y, z], S) => Q (.nx, List.set (List.set (List.set σ i (some x)) j (some y)) l (some z), S)
  | _ => False
@[simp] theorem par3K_three {i j l : Nat} {x y z : D} {Q : Fl × Slots × Store → Prop} : par3K i j l σ Q ([x, y, z], S) ↔ Q (.nx, List.set (List.set (List.set σ i (some x)) j (some y)) l (some z), S) := Iff.rfl
@[simp] theorem w_parV {i j : Nat} {fa : AV} {Q : Fl × Slots × Store → Prop} : W (parV i j fa σ S) Q ↔ W (fa σ S) (parK i j σ Q) := by
  unfold parV
  cases fa σ S with
  | none => simp
  | some p =>
    obtain ⟨ds, S1⟩ := p
    match ds with
    | [] => simp [parK]
    | [_] => simp [parK]
    | [_, _] => simp [parK]
    | _ :: _ :: _ :: _ => simp [parK]
@[simp] theorem w_par3V {i j l : Nat} {fa : AV} {Q : Fl × Slots × Store → Prop} : W (par3V i j l fa σ S) Q ↔ W (fa σ S) (par3K i j l σ Q) := by
  unfold par3V
  cases fa σ S with
  | none => simp
  | some p =>
    obtain ⟨ds, S1⟩ := p
    match ds with
    | [] => simp [par3K]
    | [_] => simp [par3K]
    | [_, _] => simp [par3K]
    | [_, _, _] => simp [par3K]
    | _ :: _ :: _ :: _ :: _ => simp [par3K]
@[simp] theorem w_augV {i : Nat} {op : Operator} {f : EV} {Q : Fl × Slots × Store → Prop} : W (augV i op f σ S) Q ↔ ∃ x, σ[i]? = some (some x) ∧ W (f σ S) fun p => W (iopD op x p.1 p.2) fun q => Q (.nx, List.set σ i (some q.1), q.2) := by
  unfold augV
  split
  · rename_i x e
    simp only [e, Option.some.injEq, exists_eq_left']
    cases f σ S with
    | none => simp
    | some p => cases h : iopD op x p.1 p.2 <;> simp [h]
  · rename_i h
    simp only [W_none, false_iff]
    rintro ⟨d, e, _⟩
    exact h d e
@[simp] theorem w_iop_add {i j : Int} {Q : D × Store → Prop} : W (iopD .Add (.int i) (.int j) S) Q ↔ Q (.int (i + j), S) := by simp [iopD]
@[simp] theorem w_retV {f : EV} {Q : Fl × Slots × Store → Prop} : W (retV f σ S) Q ↔ W (f σ S) fun p => Q (.ret p.1, σ, p.2) := by
  unfold retV
  cases f σ S <;> simp
@[simp] theorem w_dropV {f : EV} {Q : Fl × Slots × Store → Prop} : W (dropV f σ S) Q ↔ W (f σ S) fun p => Q (.nx, σ, p.2) := by
  unfold dropV
  cases f σ S <;> simp
@[simp] theorem w_passV {Q : Fl × Slots × Store → Prop} : W (passV σ S) Q ↔ Q (.nx, σ, S) := by simp [passV]
def seqK (g : SV) (Q : Fl × Slots × Store → Prop) : Fl × Slots × Store → Prop
  | (.nx, σ, S) => W (g σ S) Q
  | r => Q r
@[simp] theorem seqK_nx {g : SV} {Q : Fl × Slots × Store → Prop} : seqK g Q (.nx, σ, S) ↔ W (g σ S) Q := Iff.rfl
@[simp] theorem seqK_ret {g : SV} {d : D} {Q : Fl × Slots × Store → Prop} : seqK g Q (.ret d, σ, S) ↔ Q (.ret d, σ, S) := Iff.rfl
@[simp] theorem w_seqV {f g : SV} {Q : Fl × Slots × Store → Prop} : W (seqV f g σ S) Q ↔ W (f σ S) (seqK g Q) := by
  unfold seqV
  cases f σ S with
  | none => simp
  | some p => obtain ⟨r, σ1, S1⟩ := p; cases r <;> simp [seqK]
@[simp] theorem w_ifV {t : BV} {f g : SV} {Q : Fl × Slots × Store → Prop} : W (ifV t f g σ S) Q ↔ W (t σ S) fun p => (p.1 = true → W (f σ p.2) Q) ∧ (p.1 = false → W (g σ p.2) Q) := by
  unfold ifV
  cases t σ S with
  | none => simp
  | some p => obtain ⟨b, S1⟩ := p; cases b <;> simp
@[simp] theorem w_forIV {fi : IV} {g : GV} {b : SV} {n : Nat} {Q : Fl × Slots × Store → Prop} : W (forIV fi g b n σ S) Q ↔ W (fi σ S) fun p => W (forV p.1 g b n 0 σ p.2) Q := by
  unfold forIV
  cases fi σ S <;> simp
@[simp] theorem w_seqIV {f : EV} {Q : Src × Store → Prop} : W (seqIV f σ S) Q ↔ W (f σ S) fun p => ∃ s, srcD p.2 p.1 = some s ∧ Q (s, p.2) := by
  unfold seqIV
  cases f σ S with
  | none => simp
  | some p => cases h : srcD p.2 p.1 <;> simp [h]
def rg1K (Q : Src × Store → Prop) : List D × Store → Prop
  | ([.int j], S) => rg62 j = true ∧ Q (.rng 0 j.toNat, S)
  | _ => False
@[simp] theorem rg1K_one {j : Int} {Q : Src × Store → Prop} : rg1K Q ([.int j], S) ↔ rg62 j = true ∧ Q (.rng 0 j.toNat, S) := Iff.rfl
def rg2K (Q : Src × Store → Prop) : List D × Store → Prop
  | ([.int i, .int j], S) => (rg62 i && rg62 j) = true ∧ Q (.rng i (j - i).toNat, S)
  | _ => False
@[simp] theorem rg2K_two {i j : Int} {Q : Src × Store → Prop} : rg2K Q ([.int i, .int j], S) ↔ (rg62 i = true ∧ rg62 j = true) ∧ Q (.rng i (j - i).toNat, S) := by simp [rg2K]
@[simp] theorem w_rng1 {f : AV} {Q : Src × Store → Prop} : W (rng1IV f σ S) Q ↔ W (f σ S) (rg1K Q) := by
  unfold rng1IV
  cases f σ S with
  | none => simp
  | some p =>
    obtain ⟨ds, S1⟩ := p
    match ds with
    | [] => simp [rg1K]
    | [.int j] => by_cases h : rg62 j = true <;> simp [h, rg1K]
    | [.non] => simp [rg1K]
    | [.bl _] => simp [rg1K]
    | [.str _] => simp [rg1K]
    | [.tup _] => simp [rg1K]
    | [.loc _] => simp [rg1K]
    | _ :: _ :: _ => simp [rg1K]
@[simp] theorem w_rng2 {f : AV} {Q : Src × Store → Prop} : W (rng2IV f σ S) Q ↔ W (f σ S) (rg2K Q) := by
  unfold rng2IV
  cases f σ S with
  | none => simp
  | some p =>
    obtain ⟨ds, S1⟩ := p
    simp only [W_some]
    unfold rg2K
    split
    · rename_i i j S2 e
      cases e
      by_cases h : (rg62 i && rg62 j) = true
      · simp only [h, if_true, W_some, true_and]
      · rw [if_neg h]; simp only [W_none, false_iff]; exact fun q => h q.1
    · rename_i h
      simp only [W_none, false_iff]
      split
      · rename_i i j S2 e
        cases e
        exact (h _ _ _ rfl).elim
      · exact id
def retK (Q : D × Store → Prop) : Fl × Slots × Store → Prop
  | (.ret d, _, S) => Q (d, S)
  | (.nx, _, S) => Q (.non, S)
  | _ => False
@[simp] theorem retK_ret {d : D} {Q : D × Store → Prop} : retK Q (.ret d, σ, S) ↔ Q (d, S) := Iff.rfl
@[simp] theorem retK_nx {Q : D × Store → Prop} : retK Q (.nx, σ, S) ↔ Q (.non, S) := Iff.rfl
theorem w_runM {np n : Nat} {b : SV} {ds : List D} {Q : D × Store → Prop} : W (runM np n b ds S) Q ↔ ds.length = np ∧ W (b (ds.map some ++ List.replicate (n - ds.length) none) S) (retK Q) := by
  unfold runM
  by_cases h : ds.length = np
  · simp only [h, if_true, true_and]
    cases b (ds.map some ++ List.replicate (n - np) none) S with
    | none => simp
    | some p => obtain ⟨r, σ1, S1⟩ := p; cases r <;> simp [retK]
  · simp [h]
@[simp] theorem w_lcE {fi : IV} {g : GV} {tt : BV} {fe : EV} {vs : List Nat} {n : Nat} {Q : D × Store → Prop} : W (lcE fi g tt fe vs n σ S) Q ↔ W (fi σ S) fun p => W (lcL p.1 g tt fe (wipeD σ vs) (List.length p.2) n 0 (p.2 ++ [.lst []])) fun S2 => Q (.loc (List.length p.2), S2) := by
  unfold lcE
  cases fi σ S with
  | none => simp
  | some p => cases h : lcL p.1 g tt fe (wipeD σ vs) (List.length p.2) n 0 (p.2 ++ [.lst []]) <;> simp [h]
@[simp] theorem w_dcE {fi : IV} {g : GV} {tt : BV} {fk fv : EV} {vs : List Nat} {n : Nat} {Q : D × Store → Prop} : W (dcE fi g tt fk fv vs n σ S) Q ↔ W (fi σ S) fun p => W (dcL p.1 g tt fk fv (wipeD σ vs) (List.length p.2) n 0 (p.2 ++ [.dct []])) fun S2 => Q (.loc (List.length p.2), S2) := by
  unfold dcE
  cases fi σ S with
  | none => simp
  | some p => cases h : dcL p.1 g tt fk fv (wipeD σ vs) (List.length p.2) n 0 (p.2 ++ [.dct []]) <;> simp [h]
@[simp] theorem w_genE {fi : IV} {caps : List (Option Nat)} {g : GV} {tt : BV} {fe : EV} {lf : Nat} {eat : Gn → Slots → Store → Option (D × Store)} {Q : D × Store → Prop} : W (genE fi caps g tt fe lf eat σ S) Q ↔ W (fi σ S) fun p => W (eat ⟨p.1, g, tt, fe, lf⟩ (capD caps σ) p.2) Q := by
  unfold genE
  cases fi σ S <;> simp
def mK (gl gd : Option GM) (k : Option MK) (P : GM → Prop) : Prop := match k with
  | some .lst => match gl with
    | some g => P g
    | none => False
  | some .dct => match gd with
    | some g => P g
    | none => False
  | none => False
@[simp] theorem mK_lst {g : GM} {gd : Option GM} {P : GM → Prop} : mK (some g) gd (some .lst) P ↔ P g := Iff.rfl
@[simp] theorem mK_dct {g : GM} {gl : Option GM} {P : GM → Prop} : mK gl (some g) (some .dct) P ↔ P g := Iff.rfl
@[simp] theorem w_methE {gl gd : Option GM} {fo : EV} {fa : AV} {Q : D × Store → Prop} : W (methE gl gd fo fa σ S) Q ↔ W (fo σ S) fun o => mK gl gd (mkD o.2 o.1) fun g => W (fa σ o.2) fun p => W (g o.1 p.1 p.2) Q := by
  unfold methE
  cases fo σ S with
  | none => simp
  | some o =>
    obtain ⟨o, S1⟩ := o
    cases h : mkD S1 o with
    | none => simp [h, mK]
    | some k =>
      cases k
      · cases gl with
        | none => simp [h, mK]
        | some g => cases h2 : fa σ S1 <;> simp [h, h2]
      · cases gd with
        | none => simp [h, mK]
        | some g => cases h2 : fa σ S1 <;> simp [h, h2]
@[simp] theorem w_subV {fo fi : EV} {d : D} {Q : Slots × Store → Prop} : W (subV fo fi d σ S) Q ↔ W (fo σ S) fun o => W (fi σ o.2) fun i => W (putS o.1 i.1 d i.2) fun S3 => Q (σ, S3) := by
  unfold subV
  cases fo σ S with
  | none => simp
  | some o => cases h : fi σ o.2 with
    | none => simp [h]
    | some i => cases h2 : putS o.1 i.1 d i.2 <;> simp [h, h2]
@[simp] theorem w_delV {fo fi : EV} {Q : Fl × Slots × Store → Prop} : W (delV fo fi σ S) Q ↔ W (fo σ S) fun o => W (fi σ o.2) fun i => W (delS o.1 i.1 i.2) fun S3 => Q (.nx, σ, S3) := by
  unfold delV
  cases fo σ S with
  | none => simp
  | some o => cases h : fi σ o.2 with
    | none => simp [h]
    | some i => cases h2 : delS o.1 i.1 i.2 <;> simp [h, h2]
def rvK (Q : D × Store → Prop) (p : D × Store) : Prop := match p.1 with
  | .loc n => match (p.2 : List O)[n]? with
    | some (.lst ds) => Q (.loc (List.length p.2), p.2 ++ [.lst ds.reverse])
    | some (.fro ds) => Q (.loc (List.length p.2), p.2 ++ [.lst ds.reverse])
    | _ => False
  | _ => False
@[simp] theorem w_revE {f : EV} {Q : D × Store → Prop} : W (revE f σ S) Q ↔ W (f σ S) (rvK Q) := by
  unfold revE
  cases f σ S with
  | none => simp
  | some p =>
    obtain ⟨d, S1⟩ := p
    cases d with
    | loc n =>
      simp only [W_some, rvK]
      cases (S1 : List O)[n]? with
      | none => simp
      | some o => cases o <;> simp
    | _ => simp [rvK]
/-! ### loops -/
/-- a for over items that are told by their place -/
theorem for_rule {src : Src} {g : GV} {b : SV} {xs : List D} {Q : Fl × Slots × Store → Prop} (I : Nat → Slots → Store → Prop) (n : Nat) (hn : xs.length < n)
    (hsrc : ∀ i σ S, I i σ S → nextS S src i = some xs[i]?)
    (hstep : ∀ i d σ S, xs[i]? = some d → I i σ S → W (g d σ S) fun p => W (b p.1 p.2) fun r => match r.1 with
      | .nx => I (i + 1) r.2.1 r.2.2
      | .cont => I (i + 1) r.2.1 r.2.2
      | .brk => Q (.nx, r.2.1, r.2.2)
      | .ret d => Q (.ret d, r.2.1, r.2.2))
    (hend : ∀ σ S, I xs.length σ S → Q (.nx, σ, S)) {σ : Slots} {S : Store} (h0 : I 0 σ S) : W (forV src g b n 0 σ S) Q := by
  have main : ∀ (n i : Nat) (σ : Slots) (S : Store), i ≤ xs.length → xs.length < n + i → I i σ S → W (forV src g b n i σ S) Q := by
    intro n
    induction n with
    | zero => intro i σ S h1 h2; omega
    | succ n ih =>
      intro i σ S h1 h2 hI
      unfold forV
      rw [hsrc i σ S hI]
      cases e : xs[i]? with
      | none =>
        have : i = xs.length := by
          have := List.getElem?_eq_none_iff.mp e; omega
        subst this
        exact W_some.mpr (hend _ _ hI)
      | some d =>
        have hlt : i < xs.length := (List.getElem?_eq_some_iff.mp e).1
        obtain ⟨⟨σ1, S1⟩, e1, q1⟩ := hstep i d σ S e hI
        dsimp only
        rw [e1]; dsimp only
        obtain ⟨⟨r, σ2, S2⟩, e2, q2⟩ := q1
        rw [e2]
        cases r with
        | nx => exact ih (i + 1) _ _ (by omega) (by omega) q2
        | cont => exact ih (i + 1) _ _ (by omega) (by omega) q2
        | brk => exact W_some.mpr q2
        | ret d => exact W_some.mpr q2
  exact main n 0 σ S (by omega) (by omega) h0
theorem while_rule {t : BV} {b : SV} {Q : Fl × Slots × Store → Prop} (I : Nat → Slots → Store → Prop) (m : Nat) (n : Nat) (hn : m < n)
    (hstep : ∀ i σ S, I i σ S → W (t σ S) fun p => (p.1 = false → Q (.nx, σ, p.2)) ∧ (p.1 = true → W (b σ p.2) fun r => match r.1 with
      | .nx => ∃ j, j < i ∧ I j r.2.1 r.2.2
      | .cont => ∃ j, j < i ∧ I j r.2.1 r.2.2
      | .brk => Q (.nx, r.2.1, r.2.2)
      | .ret d => Q (.ret d, r.2.1, r.2.2)))
    {σ : Slots} {S : Store} (h0 : I m σ S) : W (whileV t b n σ S) Q := by
  have main : ∀ (n i : Nat) (σ : Slots) (S : Store), i < n → I i σ S → W (whileV t b n σ S) Q := by
    intro n
    induction n with
    | zero => intro i σ S h1; omega
    | succ n ih =>
      intro i σ S h1 hI
      obtain ⟨⟨c, S1⟩, e1, q1, q2⟩ := hstep i σ S hI
      unfold whileV
      rw [e1]
      cases c with
      | false => exact W_some.mpr (q1 rfl)
      | true =>
        dsimp only
        obtain ⟨⟨r, σ2, S2⟩, e2, q3⟩ := q2 rfl
        dsimp only at e2
        rw [e2]
        cases r with
        | nx => obtain ⟨j, hj, q⟩ := q3; exact ih j _ _ (by omega) q
        | cont => obtain ⟨j, hj, q⟩ := q3; exact ih j _ _ (by omega) q
        | brk => exact W_some.mpr q3
        | ret d => exact W_some.mpr q3
  exact main n m σ S hn h0
/-- a comprehension: I i acc S, S with the growing list at place k -/
theorem lc_rule {src : Src} {g : GV} {tt : BV} {fe : EV} {σw : Slots} {k : Nat} {xs : List D} {Q : Store → Prop} (I : Nat → List D → Store → Prop) (n : Nat) (hn : xs.length < n) (hm : xs.length ≤ most)
    (hsrc : ∀ i acc S, I i acc S → nextS S src i = some xs[i]?)
    (hacc : ∀ i acc S, I i acc S → acc.length ≤ i)
    (hstep : ∀ i d acc S, xs[i]? = some d → I i acc S → W (g d σw S) fun p => W (tt p.1 p.2) fun r => (r.1 = false → I (i + 1) acc r.2) ∧ (r.1 = true → W (fe p.1 r.2) fun y => (y.2 : List O)[k]? = some (.lst acc) ∧ I (i + 1) (acc ++ [y.1]) (List.set y.2 k (.lst (acc ++ [y.1])))))
    (hend : ∀ acc S, I xs.length acc S → Q S) {S : Store} {acc : List D} (h0 : I 0 acc S) : W (lcL src g tt fe σw k n 0 S) Q := by
  have main : ∀ (n i : Nat) (acc : List D) (S : Store), i ≤ xs.length → xs.length < n + i → I i acc S → W (lcL src g tt fe σw k n i S) Q := by
    intro n
    induction n with
    | zero => intro i acc S h1 h2; omega
    | succ n ih =>
      intro i acc S h1 h2 hI
      unfold lcL
      rw [hsrc i acc S hI]
      cases e : xs[i]? with
      | none =>
        have : i = xs.length := by
          have := List.getElem?_eq_none_iff.mp e; omega
        subst this
        exact W_some.mpr (hend _ _ hI)
      | some d =>
        have hlt : i < xs.length := (List.getElem?_eq_some_iff.mp e).1
        obtain ⟨⟨σ1, S1⟩, e1, q1⟩ := hstep i d acc S e hI
        dsimp only
        rw [e1]; dsimp only
        obtain ⟨⟨r, S2⟩, e2, q2, q3⟩ := q1
        dsimp only at e2
        rw [e2]
        cases r with
        | false => exact ih (i + 1) _ _ (by omega) (by omega) (q2 rfl)
        | true =>
          obtain ⟨⟨y, S3⟩, e3, q4, q5⟩ := q3 rfl
          dsimp only at e3 q4 q5 ⊢
          rw [e3]; dsimp only
          rw [q4]; dsimp only
          have := hacc i acc S hI
          rw [if_pos (by omega)]
          exact ih (i + 1) _ _ (by omega) (by omega) q5
  exact main n 0 acc S (by omega) (by omega) h0
end RF

end

/-! ## WF -/
section
set_option maxRecDepth 100000
/-! A sort that is soon reckoned. -/
namespace RF
open PySem L2
abbrev SRT : GC := orG sortedG sortedDG
def insZ (a : Int) : List Int → List Int
  | [] => [a]
  | b :: r => if a ≤ b then a :: b :: r else b :: insZ a r
def isortZ : List Int → List Int
  | [] => []
  | a :: r => insZ a (isortZ r)
theorem leD_int (a b : Int) : leD (.int a) (.int b) = decide (a ≤ b) := by
  unfold leD
  show (!PySem.W.dataLt (.int b) (.int a)) = _
  rw [PySem.W.dataLt_int, Bool.eq_iff_iff]
  simp
theorem insD_ints (a : Int) : ∀ l : List Int, insD leD (.int a) (l.map .int) = (insZ a l).map .int
  | [] => rfl
  | b :: r => by
    simp only [List.map_cons, insD, insZ, leD_int, decide_eq_true_eq]
    split
    · rfl
    · rw [insD_ints a r]; rfl
theorem sortD_ints : ∀ l : List Int, sortD (l.map .int) = (isortZ l).map .int
  | [] => rfl
  | a :: r => by
    show insD leD (.int a) (sortD (r.map .int)) = (insZ a (isortZ r)).map .int
    rw [sortD_ints r, insD_ints]
theorem sortOk_ints {l : List Int} (hl : l.length ≤ most) : sortOk (l.map .int) = true := by
  unfold sortOk
  simp only [Bool.and_eq_true, Bool.or_eq_true, decide_eq_true_eq, List.all_eq_true, List.length_map]
  refine ⟨⟨⟨hl, fun d hd => ?_⟩, fun a ha b hb => ?_⟩, .inr fun d hd => ?_⟩
  · obtain ⟨r, _, rfl⟩ := List.mem_map.mp hd
    rw [toPy_int]; rfl
  · obtain ⟨r, _, rfl⟩ := List.mem_map.mp ha
    obtain ⟨q, _, rfl⟩ := List.mem_map.mp hb
    simp [enc, toPy_int, PySem.W.alike]
  · obtain ⟨r, hr, rfl⟩ := List.mem_map.mp hd
    simp [enc, toPy_int, nonTup]
theorem srt_rows {d : D} {S : Store} {rs : List (List Int)} (h : lstD S d = some (rs.map tupI)) (hl : rs.length ≤ most) (hn : ∀ r ∈ rs, r ≠ []) : SRT [d] S = some (.loc (List.length S), S ++ [.lst ((isortI rs).map tupI)]) := by
  simp only [SRT, orG, sortedG, h, sortOk_rows hl hn, if_true, sortD_rows]
theorem srt_ints {d : D} {S : Store} {is : List Int} (h : lstD S d = some (is.map .int)) (hl : is.length ≤ most) : SRT [d] S = some (.loc (List.length S), S ++ [.lst ((isortZ is).map .int)]) := by
  simp only [SRT, orG, sortedG, h, sortOk_ints hl, if_true, sortD_ints]
def fastS : GC := fun ds S => match ds with
  | [d] => match lstD S d with
    | some xs => match rowsI xs with
      | some rs => if rs.length ≤ most then if (rs.all fun r => !r.isEmpty) = true then some (.loc (List.length S), S ++ [.lst ((isortI rs).map tupI)]) else SRT ds S else SRT ds S
      | none => match intsOf xs with
        | some is => if is.length ≤ most then some (.loc (List.length S), S ++ [.lst ((isortZ is).map .int)]) else SRT ds S
        | none => SRT ds S
    | none => SRT ds S
  | _ => SRT ds S
theorem fast_eq : SRT = fastS := by
  funext ds S
  unfold fastS
  split
  · rename_i d
    split
    · rename_i xs e
      split
      · rename_i rs e2
        split
        · rename_i hl
          split
          · rename_i hn
            rw [rowsI_map e2] at e
            exact srt_rows e hl fun r hr h => by
              have := List.all_eq_true.mp hn r hr
              rw [h] at this; cases this
          · rfl
        · rfl
      · split
        · rename_i is e3
          split
          · rename_i hl
            rw [intsOf_map e3] at e
            exact srt_ints e hl
          · rfl
        · rfl
    · rfl
  · rfl

/-! cells in dicts, by their numbers -/
def cell? : D → Option (Int × Int)
  | .tup [.int a, .int b] => some (a, b)
  | _ => none
def cells? : List (D × D) → Option (List (Int × Int))
  | [] => some []
  | e :: r => match cell? e.1, cells? r with
    | some c, some l => some (c :: l)
    | _, _ => none
theorem cell?_inv {d : D} {c : Int × Int} (h : cell? d = some c) : d = .tup [.int c.1, .int c.2] := by
  unfold cell? at h
  split at h
  · cases h; rfl
  · cases h
def hasC (a b : Int) : List (Int × Int) → Bool
  | [] => false
  | c :: r => if c.1 = a then if c.2 = b then true else hasC a b r else hasC a b r
def ckey' (c : Int × Int) : NestedKey := .tup [.num c.1, .num c.2]
theorem tk_c (a b : Int) : tkD (.tup [.int a, .int b]) = some (ckey' (a, b)) := by
  show (if NestedKey.depth (ckey' (a, b)) ≤ 8 then some (ckey' (a, b)) else none) = _
  rw [if_pos]
  simp [ckey', NestedKey.depth, NestedKey.depthAll]
theorem ckey'_inj {a b : Int × Int} : ckey' a = ckey' b ↔ a = b := by
  simp only [ckey', NestedKey.tup.injEq, List.cons.injEq, NestedKey.num.injEq, and_true]
  exact ⟨fun e => Prod.ext e.1 e.2, fun e => by rw [e]; exact ⟨rfl, rfl⟩⟩
theorem cells_look (a b : Int) : ∀ {kvs : List (D × D)} {l : List (Int × Int)}, cells? kvs = some l → kindOk kvs (.tup [.int a, .int b]) = true ∧ (lookD kvs (.tup [.int a, .int b])).isSome = hasC a b l
  | [], l, h => by cases h; exact ⟨by simp [kindOk, dKey, tk_c], by simp [lookD, dKey, tk_c, hasC]⟩
  | e :: r, l, h => by
    unfold cells? at h
    split at h
    · rename_i c l' h1 h2
      cases h
      obtain ⟨i1, i2⟩ := cells_look a b h2
      obtain ⟨d, v⟩ := e
      have := cell?_inv h1
      dsimp only at this
      subst this
      obtain ⟨c1, c2⟩ := c
      have e0 : dKey (.tup [.int a, .int b]) = none := rfl
      simp only [kindOk, e0, tk_c, Option.isSome_some, Bool.true_and] at i1
      simp only [lookD, e0, tk_c] at i2
      refine ⟨?_, ?_⟩
      · simp only [kindOk, e0, tk_c, Option.isSome_some, Bool.true_and, List.all_cons, i1]
      · simp only [lookD, e0, tk_c, List.find?_cons, Option.some.injEq, ckey'_inj, Prod.mk.injEq, hasC]
        by_cases h1 : c1 = a
        · by_cases h2 : c2 = b
          · simp [h1, h2]
          · simp only [h1, h2, and_false, decide_false, if_true, if_false]; exact i2
        · simp only [h1, false_and, decide_false, if_false]; exact i2
    · cases h
def inF (neg : Bool) : G2 := fun x y S => match y with
  | .loc n => match (S : List O)[n]? with
    | some (.dct kvs) => match cell? x with
      | some c => match cells? kvs with
        | some l => some (.bl (flipB neg (hasC c.1 c.2 l)), S)
        | none => inD neg x (.loc n) S
      | none => inD neg x (.loc n) S
    | _ => inD neg x (.loc n) S
  | y => inD neg x y S
theorem inF_eq (neg : Bool) : inD neg = inF neg := by
  funext x y S
  unfold inF
  split
  · rename_i n
    split
    · rename_i kvs e
      split
      · rename_i c h1
        split
        · rename_i l h2
          have := cell?_inv h1
          subst this
          obtain ⟨i1, i2⟩ := cells_look c.1 c.2 h2
          simp only [inD, e, i1, if_true, i2]
        · rfl
      · rfl
    · rfl
  · rfl
structure Pack where
  srt : GC
  isin : G2
  nin : G2
def PK0 : Pack := ⟨SRT, cmpD .In, cmpD .NotIn⟩
def PKF : Pack := ⟨fastS, inF false, inF true⟩
theorem pk_eq : PK0 = PKF := by
  unfold PK0 PKF
  rw [fast_eq, ← inF_eq, ← inF_eq]
  rfl
end RF

end

/-! ## WC -/
section
set_option maxRecDepth 100000
/-! Numbers, pairs, rows as data. -/
namespace RF
open PySem PySem.W L2
class En (α : Type) [DecidableEq α] [Datum α] where
  d : α → D
  py : ∀ (S : Store) (f : Nat) (a : α), Datum.depth α ≤ f → toPy S f (d a) = some (Datum.toD a)
  flat : ∀ (p : Nat) (a : α), shD p (d a) = d a
instance : En Int where
  d := .int
  py S f a _ := toPy_int S f a
  flat p a := by simp [shD]
instance : En Bool where
  d := .bl
  py S f a _ := toPy_bl S f a
  flat p a := by simp [shD]
theorem allS_map {α β γ : Type} {f : β → Option γ} {g : α → β} {h : α → γ} (e : ∀ a, f (g a) = some (h a)) : ∀ l : List α, allS ((l.map g).map f) = some (l.map h)
  | [] => rfl
  | a :: r => by simp only [List.map_cons, e a, allS, allS_map e r]
instance {α β : Type} [DecidableEq α] [Datum α] [En α] [DecidableEq β] [Datum β] [En β] : En (α × β) where
  d p := .tup [En.d p.1, En.d p.2]
  py S f p h := by
    cases f with
    | zero => exact absurd h (Nat.not_succ_le_zero _)
    | succ f =>
      have h' : max (Datum.depth α) (Datum.depth β) ≤ f := Nat.succ_le_succ_iff.mp h
      have e1 := En.py S f p.1 (Nat.le_trans (Nat.le_max_left _ _) h')
      have e2 := En.py S f p.2 (Nat.le_trans (Nat.le_max_right _ _) h')
      simp only [toPy, List.map_cons, List.map_nil, e1, e2, allS]
      rfl
  flat p a := by rw [sh_tup]; simp [En.flat]
instance {α : Type} [DecidableEq α] [Datum α] [En α] : En (Tup α) where
  d t := .tup (t.items.map En.d)
  py S f p h := by
    cases f with
    | zero => exact absurd h (Nat.not_succ_le_zero _)
    | succ f =>
      have h' : Datum.depth α ≤ f := Nat.succ_le_succ_iff.mp h
      simp only [toPy]
      rw [allS_map (h := Datum.toD) (fun a => En.py S f a h')]
      rfl
  flat p a := by rw [sh_tup, List.map_map]; congr 1; apply List.map_congr_left; intro x _; exact En.flat p x
abbrev Cell := Int × Int
abbrev cD (c : Cell) : D := .tup [.int c.1, .int c.2]
abbrev csD (l : List Cell) : List D := l.map cD
theorem cD_eq (c : Cell) : cD c = En.d c := rfl
theorem cD_flat (p : Nat) (c : Cell) : shD p (cD c) = cD c := En.flat p c
theorem csD_flat (p : Nat) (l : List Cell) : (csD l).map (shD p) = csD l := map_same fun a ha => by
  obtain ⟨c, _, rfl⟩ := List.mem_map.mp ha
  exact cD_flat p c
section
variable {α : Type} [DecidableEq α] [Datum α] [En α] {S : Store}
theorem py_en (h : Datum.depth α ≤ 40) (S : Store) (a : α) : py S (En.d a) = some (Datum.toD a) := En.py S 40 a h
theorem pys_en {f : Nat} (h : Datum.depth α ≤ f) (S : Store) (l : List α) : toPys S f (l.map En.d) = some (l.map Datum.toD) := allS_map (fun a => En.py S f a h) l
theorem eq_en (h : Datum.depth α ≤ 40) (x y : α) (S : Store) : eqD false (En.d x) (En.d y) S = some (.bl (decide (x = y)), S) := by
  simp [eqD, py_en h, Datum.eqv]
theorem ne_en (h : Datum.depth α ≤ 40) (x y : α) (S : Store) : eqD true (En.d x) (En.d y) S = some (.bl (!decide (x = y)), S) := by
  simp [eqD, py_en h, Datum.eqv]
theorem in_tup_en (h : Datum.depth α ≤ 39) (neg : Bool) (x : α) (l : List α) (S : Store) : inD neg (En.d x) (.tup (l.map En.d)) S = some (.bl (flipB neg (decide (x ∈ l))), S) := by
  simp only [inD, py_en (Nat.le_succ_of_le h), pys_en h, any_datum]
theorem in_lst_en (h : Datum.depth α ≤ 39) (neg : Bool) (x : α) (l : List α) {S : Store} {n : Nat} (e : (S : List O)[n]? = some (.lst (l.map En.d))) : inD neg (En.d x) (.loc n) S = some (.bl (flipB neg (decide (x ∈ l))), S) := by
  simp only [inD, e, py_en (Nat.le_succ_of_le h), pys_en h, any_datum]
end
/-! dicts with cells as keys -/
def ckey (c : Cell) : NestedKey := .tup [.num c.1, .num c.2]
theorem tk_cD (c : Cell) : tkD (cD c) = some (ckey c) := by
  show (if NestedKey.depth (ckey c) ≤ 8 then some (ckey c) else none) = _
  rw [if_pos]
  simp [ckey, NestedKey.depth, NestedKey.depthAll]
theorem ckey_inj {a b : Cell} : ckey a = ckey b ↔ a = b := by
  simp only [ckey, NestedKey.tup.injEq, List.cons.injEq, NestedKey.num.injEq, and_true]
  exact ⟨fun e => Prod.ext e.1 e.2, fun e => by rw [e]; exact ⟨rfl, rfl⟩⟩
@[simp] theorem dk_cD (c : Cell) : dKey (cD c) = none := rfl
def tab (l : List Cell) (v : D) : List (D × D) := l.map fun c => (cD c, v)
theorem tab_kind (l : List Cell) (v : D) (c : Cell) : kindOk (tab l v) (cD c) = true := by
  simp [kindOk, dk_cD, tk_cD, tab]
theorem tab_look (l : List Cell) (v : D) (c : Cell) : lookD (tab l v) (cD c) = if c ∈ l then some v else none := by
  simp only [lookD, dk_cD, tk_cD, tab]
  induction l with
  | nil => rfl
  | cons a r ih =>
    rw [List.map_cons, List.find?_cons]
    simp only [tk_cD, Option.some.injEq, ckey_inj]
    by_cases h : a = c
    · subst h; simp
    · simp only [h, decide_false, List.mem_cons, Ne.symm h, false_or]
      exact ih
theorem tab_put (l : List Cell) (v : D) (c : Cell) : putD (tab l v) (cD c) v = tab (if c ∈ l then l else l ++ [c]) v := by
  simp only [putD, dk_cD, tk_cD, putBy]
  have e : ((tab l v).any fun e => decide (tkD e.1 = some (ckey c))) = decide (c ∈ l) := by
    rw [tab, List.any_map, Bool.eq_iff_iff, List.any_eq_true, decide_eq_true_eq]
    simp only [Function.comp_def, tk_cD, Option.some.injEq, ckey_inj, decide_eq_true_eq]
    exact ⟨fun ⟨x, hx, e⟩ => e ▸ hx, fun h => ⟨c, h, rfl⟩⟩
  rw [e]
  by_cases h : c ∈ l
  · simp only [h, decide_true, if_true]
    apply map_same
    intro a ha
    obtain ⟨x, _, rfl⟩ := List.mem_map.mp ha
    split <;> rfl
  · simp [h, tab]
theorem tab_drop (l : List Cell) (v : D) (c : Cell) : dropD (tab l v) (cD c) = tab (l.filter (· ≠ c)) v := by
  simp only [dropD, dk_cD, tk_cD, tab, List.filter_map, Function.comp_def, ne_eq, Option.some.injEq, ckey_inj]
def uniq (l : List Cell) : List Cell := l.foldl (fun acc c => if c ∈ acc then acc else acc ++ [c]) []
theorem uniq_mem (l : List Cell) (c : Cell) : c ∈ uniq l ↔ c ∈ l := by
  have main : ∀ (l acc : List Cell), c ∈ l.foldl (fun acc c => if c ∈ acc then acc else acc ++ [c]) acc ↔ c ∈ acc ∨ c ∈ l := by
    intro l
    induction l with
    | nil => intro acc; simp
    | cons a r ih =>
      intro acc
      rw [List.foldl_cons, ih]
      by_cases h : a ∈ acc
      · simp only [h, if_true, List.mem_cons]
        exact ⟨fun q => q.elim .inl (fun q => .inr (.inr q)), fun q => q.elim .inl (fun q => q.elim (fun e => .inl (e ▸ h)) .inr)⟩
      · simp only [h, if_false, List.mem_append, List.mem_cons, List.not_mem_nil, or_false]
        exact or_assoc
  simpa [uniq] using main l []
theorem uniq_len (l : List Cell) : (uniq l).length ≤ l.length := by
  have main : ∀ (l acc : List Cell), (l.foldl (fun acc c => if c ∈ acc then acc else acc ++ [c]) acc).length ≤ acc.length + l.length := by
    intro l
    induction l with
    | nil => intro acc; simp
    | cons a r ih =>
      intro acc
      rw [List.foldl_cons]
      have := ih (if a ∈ acc then acc else acc ++ [a])
      by_cases h : a ∈ acc
      · simp only [h, if_true] at this ⊢; rw [List.length_cons]; omega
      · simp only [h, if_false, List.length_append, List.length_cons, List.length_nil] at this ⊢; omega
  simpa [uniq] using main l []
theorem tab_all (v : D) (l : List Cell) : putAll [] (l.map fun c => (cD c, v)) = tab (uniq l) v := by
  have main : ∀ (l acc : List Cell), putAll (tab acc v) (l.map fun c => (cD c, v)) = tab (l.foldl (fun acc c => if c ∈ acc then acc else acc ++ [c]) acc) v := by
    intro l
    induction l with
    | nil => intro acc; rfl
    | cons a r ih =>
      intro acc
      show putAll (putD (tab acc v) (cD a) v) (r.map fun c => (cD c, v)) = _
      rw [tab_put, ih]
      rfl
  exact main l []
theorem in_tab (neg : Bool) (c : Cell) {l : List Cell} {v : D} {S : Store} {n : Nat} (e : (S : List O)[n]? = some (.dct (tab l v))) : inD neg (cD c) (.loc n) S = some (.bl (flipB neg (decide (c ∈ l))), S) := by
  simp only [inD, e, tab_kind, if_true, tab_look]
  by_cases h : c ∈ l <;> simp [h]
/-! store -/
abbrev At (S : Store) (n : Nat) (o : O) : Prop := (S : List O)[n]? = some o
abbrev Pre1 (S S' : Store) : Prop := (S : List O) <+: (S' : List O)
theorem At.lt {S : Store} {n : Nat} {o : O} (h : At S n o) : n < List.length S := (List.getElem?_eq_some_iff.mp h).1
theorem At.pre {S S' : Store} {n : Nat} {o : O} (h : At S n o) (p : Pre1 S S') : At S' n o := pre_get p h
theorem At.app {S : Store} {n : Nat} {o : O} (h : At S n o) (E : Store) : At (S ++ E) n o := pre_get (List.prefix_append _ _) h
theorem At.new (S : Store) (o : O) : At (S ++ [o]) (List.length S) o := by simp [At]
theorem At.set {S : Store} {n : Nat} {o : O} (h : n < List.length S) : At (List.set S n o) n o := List.getElem?_set_self h
theorem At.set_ne {S : Store} {n m : Nat} {o o' : O} (h : At S n o) (ne : n ≠ m) : At (List.set S m o') n o := by
  show (List.set S m o')[n]? = _
  rw [List.getElem?_set_ne (Ne.symm ne)]; exact h
theorem Pre1.refl (S : Store) : Pre1 S S := List.prefix_refl S
theorem Pre1.trans {A B C : Store} (h : Pre1 A B) (k : Pre1 B C) : Pre1 A C := List.IsPrefix.trans h k
theorem Pre1.app {A B : Store} (h : Pre1 A B) (E : Store) : Pre1 A (B ++ E) := h.trans (List.prefix_append _ _)
theorem Pre1.len {A B : Store} (h : Pre1 A B) : List.length A ≤ List.length B := h.length_le
theorem Pre1.set {A B : Store} (h : Pre1 A B) {n : Nat} (hn : List.length A ≤ n) (o : O) : Pre1 A (List.set B n o) := by
  obtain ⟨E, rfl⟩ := h
  rw [List.set_append_right (h := hn)]
  exact List.prefix_append _ _
def Val (v : D) (S : Store) (p : D × Store) : Prop := p.1 = v ∧ Pre1 S p.2
def Lst (ds : List D) (S : Store) (p : D × Store) : Prop := ∃ n, p.1 = .loc n ∧ Pre1 S p.2 ∧ List.length S ≤ n ∧ At p.2 n (.lst ds)
def Dct (kvs : List (D × D)) (S : Store) (p : D × Store) : Prop := ∃ n, p.1 = .loc n ∧ Pre1 S p.2 ∧ List.length S ≤ n ∧ At p.2 n (.dct kvs)
/-- a closed call, once for all stores -/
theorem lift_val {g : GC} (hg : ShC g) {ds : List D} {d : D} (hd : ∀ p, shD p d = d) (hs : ∀ p, ds.map (shD p) = ds) (e : ∃ E, g ds [] = some (d, E)) (S : Store) : W (g ds S) (Val d S) := by
  obtain ⟨E, e⟩ := e
  obtain ⟨E', e'⟩ := lift hg hd hs e S
  exact .of e' ⟨rfl, List.prefix_append _ _⟩
theorem lift_lst {g : GC} (hg : ShC g) {ds : List D} {l : List Cell} (hs : ∀ p, ds.map (shD p) = ds) (e : ∃ n E, g ds [] = some (.loc n, E) ∧ (E : List O)[n]? = some (.lst (csD l))) (S : Store) : W (g ds S) (Lst (csD l) S) := by
  obtain ⟨n, E, e, h⟩ := e
  have := hg S ds [] _ E e
  rw [hs] at this
  have e0 : Ex S [] = S := by simp [Ex, shS]
  rw [e0] at this
  refine .of this ⟨List.length S + n, by simp [shD], List.prefix_append _ _, by omega, ?_⟩
  show (Ex S E : List O)[List.length S + n]? = _
  rw [Ex_get, h]
  simp only [Option.map, shO, csD_flat]
end RF
namespace RF
theorem shmo_none : ShMo none := trivial
theorem shmo_app : ShMo (some appendG) := sh_appendG
theorem shmo_pop : ShMo (some popG) := sh_popG
theorem shmo_dpop : ShMo (some dpopG) := sh_dpopG
theorem shmo_index : ShMo (some indexG) := sh_indexG
theorem shpr_nil : ShPr [] := trivial
theorem shpr_cons {a b : EV} {r : List (EV × EV)} (h1 : ShE a) (h2 : ShE b) (h3 : ShPr r) : ShPr ((a, b) :: r) := ⟨h1, h2, h3⟩
theorem fl_near (p : Nat) : shD p c_NEAR_STEPS = c_NEAR_STEPS := by simp [shD, shDs, c_NEAR_STEPS]
theorem fl_side (p : Nat) : shD p c_SIDE_STEPS = c_SIDE_STEPS := by simp [shD, shDs, c_SIDE_STEPS]
theorem fl_int (i : Int) (p : Nat) : shD p (.int i) = .int i := by simp [shD]
theorem fl_bl (i : Bool) (p : Nat) : shD p (.bl i) = .bl i := by simp [shD]
theorem fl_str (i : PySem.Str) (p : Nat) : shD p (.str i) = .str i := by simp [shD]
theorem fl_non (p : Nat) : shD p .non = .non := by simp [shD]
end RF
namespace RF
theorem sh_pk_srt : ShC PK0.srt := sh_sortedG
theorem sh_pk_in : Sh2 PK0.isin := sh_inD false
theorem sh_pk_nin : Sh2 PK0.nin := sh_inD true
end RF
namespace RF
open PySem PySem.W L2
theorem mk_lst {S : Store} {n : Nat} {ds : List D} (h : At S n (.lst ds)) : mkD S (.loc n) = some .lst := by simp only [mkD, h]
theorem mk_dct {S : Store} {n : Nat} {ds : List (D × D)} (h : At S n (.dct ds)) : mkD S (.loc n) = some .dct := by simp only [mkD, h]
theorem w_append {S : Store} {n : Nat} {xs : List D} {d : D} {Q : D × Store → Prop} (h : At S n (.lst xs)) (hl : xs.length < most) (q : Q (.non, List.set S n (.lst (xs ++ [d])))) : W (appendG (.loc n) [d] S) Q := by
  simp only [appendG, h, hl, if_true, W_some]; exact q
theorem w_pop {S : Store} {n : Nat} {xs : List D} {d : D} {Q : D × Store → Prop} (h : At S n (.lst (xs ++ [d]))) (q : Q (d, List.set S n (.lst xs))) : W (popG (.loc n) [] S) Q := by
  have e : (xs ++ [d])[(xs ++ [d]).length - 1]? = some d := by simp
  simp only [popG, h, e, W_some, List.dropLast_concat]; exact q
theorem w_popi {S : Store} {n : Nat} {xs : List D} {i : Int} {d : D} {Q : D × Store → Prop} (h : At S n (.lst xs)) (h0 : 0 ≤ i) (h1 : i < 4611686018427387904) (hd : xs[i.toNat]? = some d) (q : Q (d, List.set S n (.lst (xs.eraseIdx i.toNat)))) : W (popG (.loc n) [.int i] S) Q := by
  have hlt : i.toNat < xs.length := (List.getElem?_eq_some_iff.mp hd).1
  have e1 : rg62 i = true := by simp [rg62]; omega
  have e2 : seqIndex? i xs.length = some i.toNat := by
    have h2 : ¬ i < 0 := by omega
    simp [seqIndex?, h2]
    omega
  simp only [popG, h, e1, if_true, e2, hd, W_some]; exact q
end RF

end

/-! ## WD -/
section
set_option maxRecDepth 100000
/-! What stays, and rules for comprehensions that change nothing. -/
namespace RF
open PySem PySem.W L2
/-- all that stood before stays, but at the places A -/
structure Fr (A : List Nat) (S S' : Store) : Prop where
  len : List.length S ≤ List.length S'
  same : ∀ n, n < List.length S → n ∉ A → (S' : List O)[n]? = (S : List O)[n]?
theorem Fr.refl (A : List Nat) (S : Store) : Fr A S S := ⟨Nat.le_refl _, fun _ _ _ => rfl⟩
theorem Fr.trans {A : List Nat} {S1 S2 S3 : Store} (h : Fr A S1 S2) (k : Fr A S2 S3) : Fr A S1 S3 :=
  ⟨Nat.le_trans h.len k.len, fun n hn ha => (k.same n (Nat.lt_of_lt_of_le hn h.len) ha).trans (h.same n hn ha)⟩
theorem Fr.mono {A B : List Nat} {S S' : Store} (h : Fr A S S') (k : ∀ n ∈ A, n ∈ B) : Fr B S S' := ⟨h.len, fun n hn hb => h.same n hn fun ha => hb (k n ha)⟩
theorem Fr.pre {A : List Nat} {S S' : Store} (h : Pre1 S S') : Fr A S S' := ⟨h.len, fun n hn _ => by
  obtain ⟨E, rfl⟩ := h
  exact List.getElem?_append_left hn⟩
theorem Fr.at {A : List Nat} {S S' : Store} (h : Fr A S S') {n : Nat} {o : O} (e : At S n o) (ha : n ∉ A) : At S' n o := (h.same n e.lt ha).trans e
theorem Fr.app {A : List Nat} {S S' : Store} (h : Fr A S S') (E : Store) : Fr A S (S' ++ E) := h.trans (.pre (List.prefix_append _ _))
theorem Fr.set {A : List Nat} {S S' : Store} (h : Fr A S S') {n : Nat} (hn : n ∈ A ∨ List.length S ≤ n) (o : O) : Fr A S (List.set S' n o) :=
  ⟨by rw [List.length_set]; exact h.len, fun m hm ha => by
    have : n ≠ m := by rintro rfl; rcases hn with q | q; exact ha q; omega
    rw [List.getElem?_set_ne this]; exact h.same m hm ha⟩
theorem Fr.pre1 {S S' : Store} (h : Fr [] S S') : Pre1 S S' := by
  have : S = List.take (List.length S) S' := by
    apply List.ext_getElem?
    intro n
    by_cases hn : n < List.length S
    · rw [List.getElem?_take_of_lt hn, h.same n hn (by simp)]
    · rw [List.getElem?_eq_none (by omega), List.getElem?_eq_none (by simp; omega)]
  show (S : List O) <+: S'
  rw [this]
  exact List.take_prefix _ _
/-- where A's places are new, nothing old changes -/
theorem Fr.fresh {A : List Nat} {S0 S S' : Store} (p : Pre1 S0 S) (h : Fr A S S') (k : ∀ n ∈ A, List.length S0 ≤ n) : Pre1 S0 S' :=
  Fr.pre1 ⟨Nat.le_trans p.len h.len, fun n hn _ => by
    rw [h.same n (Nat.lt_of_lt_of_le hn p.len) fun q => by have := k n q; omega]
    obtain ⟨E, rfl⟩ := p
    exact List.getElem?_append_left hn⟩
/-- the items of a source, as long as what stood stays -/
def Items (src : Src) (S : Store) (xs : List D) : Prop := ∀ S', Pre1 S S' → ∀ i, nextS S' src i = some xs[i]?
theorem items_tup (ds : List D) (S : Store) : Items (.tup ds) S ds := fun _ _ _ => rfl
theorem items_lst {S : Store} {n : Nat} {ds : List D} (h : At S n (.lst ds)) : Items (.seq n) S ds := fun S' p i => by
  have := h.pre p
  simp only [nextS, this]
theorem items_rng (lo : Int) (n : Nat) (S : Store) : Items (.rng lo n) S (rgL lo n) := fun S' _ i => by
  simp only [nextS, rgL]
  congr 1
  by_cases h : i < n
  · simp [h]
  · simp [h]
theorem Items.pre {src : Src} {S S' : Store} {xs : List D} (h : Items src S xs) (p : Pre1 S S') : Items src S' xs := fun S2 q i => h S2 (p.trans q) i
theorem srcD_lst {S : Store} {n : Nat} {ds : List D} (h : At S n (.lst ds)) : srcD S (.loc n) = some (.seq n) := by simp only [srcD, h]
theorem srcD_fro {S : Store} {n : Nat} {ds : List D} (h : At S n (.fro ds)) : srcD S (.loc n) = some (.seq n) := by simp only [srcD, h]
theorem items_fro {S : Store} {n : Nat} {ds : List D} (h : At S n (.fro ds)) : Items (.seq n) S ds := fun S' p i => by
  have := h.pre p
  simp only [nextS, this]
/-- a comprehension that changes nothing: each item is left out or gives one -/
theorem lc_pure {fi : IV} {g : GV} {tt : BV} {fe : EV} {vs : List Nat} {n : Nat} {σ : Slots} {S : Store} (xs : List D) (f : D → Option D) (hn : xs.length < n) (hm : xs.length ≤ most)
    (hi : W (fi σ S) fun p => Pre1 S p.2 ∧ Items p.1 p.2 xs)
    (hstep : ∀ (i : Nat) (x : D), xs[i]? = some x → ∀ S', Pre1 S S' → W (g x (wipeD σ vs) S') fun p => W (tt p.1 p.2) fun r => match f x with
      | none => r.1 = false ∧ Pre1 S' r.2
      | some y => r.1 = true ∧ W (fe p.1 r.2) fun q => q.1 = y ∧ Pre1 S' q.2) : W (lcE fi g tt fe vs n σ S) (Lst (xs.filterMap f) S) := by
  rw [w_lcE]
  refine hi.imp fun ⟨src, S1⟩ ⟨p1, it⟩ => ?_
  dsimp only at p1 it ⊢
  refine (lc_rule (xs := xs) (Q := fun S2 => Pre1 S S2 ∧ At S2 (List.length S1) (.lst (xs.filterMap f))) (fun i acc S2 => Pre1 S1 S2 ∧ At S2 (List.length S1) (.lst acc) ∧ acc = (xs.take i).filterMap f) n hn hm ?_ ?_ ?_ ?_ (acc := []) ?_).imp fun S2 q => ?_
  · rintro i acc S2 ⟨h1, _, _⟩
    exact it S2 h1 i
  · rintro i acc S2 ⟨_, _, rfl⟩
    exact Nat.le_trans (List.length_filterMap_le _ _) (by simp; omega)
  · rintro i x acc S2 hx ⟨h1, h2, rfl⟩
    refine (hstep i x hx S2 (p1.trans h1)).imp fun ⟨σ2, S3⟩ q => q.imp fun ⟨b, S4⟩ q => ?_
    have et : xs.take (i + 1) = xs.take i ++ [x] := by
      rw [List.take_succ, hx]; rfl
    cases e : f x with
    | none =>
      simp only [e] at q
      refine ⟨fun _ => ⟨h1.trans q.2, h2.pre q.2, ?_⟩, fun hb => by rw [q.1] at hb; cases hb⟩
      rw [et, List.filterMap_append]; simp [e]
    | some y =>
      simp only [e] at q
      refine ⟨fun hb => (by rw [q.1] at hb; cases hb), fun _ => q.2.imp fun ⟨y', S5⟩ q => ?_⟩
      obtain ⟨rfl, p5⟩ := q
      dsimp only at p5 ⊢
      have h5 := h2.pre p5
      refine ⟨h5, (h1.trans p5).set (Nat.le_refl _) _, At.set h5.lt, ?_⟩
      rw [et, List.filterMap_append]; simp [e]
  · rintro acc S2 ⟨h1, h2, rfl⟩
    rw [List.take_length] at h2
    exact ⟨p1.trans h1, h2⟩
  · exact ⟨List.prefix_append _ _, At.new _ _, by simp⟩
  · exact ⟨_, rfl, q.1, p1.len, q.2⟩
/-- without a test -/
theorem lc_map {fi : IV} {g : GV} {fe : EV} {vs : List Nat} {n : Nat} {σ : Slots} {S : Store} (xs : List D) (f : D → D) (hn : xs.length < n) (hm : xs.length ≤ most)
    (hi : W (fi σ S) fun p => Pre1 S p.2 ∧ Items p.1 p.2 xs)
    (hstep : ∀ (i : Nat) (x : D), xs[i]? = some x → ∀ S', Pre1 S S' → W (g x (wipeD σ vs) S') fun p => W (fe p.1 p.2) fun q => q.1 = f x ∧ Pre1 S' q.2) : W (lcE fi g yesB fe vs n σ S) (Lst (xs.map f) S) := by
  have := lc_pure (tt := yesB) xs (fun x => some (f x)) hn hm hi fun i x hx S' p => (hstep i x hx S' p).imp fun q h => by
    simp only [yesB, W_some, true_and]
    exact h
  rwa [List.filterMap_eq_map'] at this

section
variable {α : Type} (S E : List α) (a b c d : α)
@[simp] theorem get_ap0 : (S ++ a :: E)[List.length S]? = some a := by simp
@[simp] theorem get_ap1 : (S ++ a :: b :: E)[List.length S + 1]? = some b := by
  rw [List.getElem?_append_right (by omega)]; simp
@[simp] theorem get_ap2 : (S ++ a :: b :: c :: E)[List.length S + 2]? = some c := by
  rw [List.getElem?_append_right (by omega)]; simp
@[simp] theorem get_ap3 : (S ++ a :: b :: c :: d :: E)[List.length S + 3]? = some d := by
  rw [List.getElem?_append_right (by omega)]; simp
end
/-- {c: v for c in cells} -/
theorem dc_tab {fi : IV} {g : GV} {fk fv : EV} {vs : List Nat} {n : Nat} {σ : Slots} {S : Store} (l : List Cell) (v : D) (hn : l.length < n) (hm : l.length ≤ most)
    (hi : W (fi σ S) fun p => Pre1 S p.2 ∧ Items p.1 p.2 (csD l))
    (hstep : ∀ (i : Nat) (c : Cell), l[i]? = some c → ∀ S', Pre1 S S' → W (g (cD c) (wipeD σ vs) S') fun p => W (fk p.1 p.2) fun q => q.1 = cD c ∧ W (fv p.1 q.2) fun r => r.1 = v ∧ Pre1 S' r.2) : W (dcE fi g yesB fk fv vs n σ S) (Dct (tab (uniq l) v) S) := by
  rw [w_dcE]
  refine hi.imp fun ⟨src, S1⟩ ⟨p1, it⟩ => ?_
  dsimp only at p1 it ⊢
  have main : ∀ (n i : Nat) (S2 : Store), i ≤ l.length → l.length < n + i → Pre1 S1 S2 → At S2 (List.length S1) (.dct (tab (uniq (l.take i)) v)) →
      W (dcL src g yesB fk fv (wipeD σ vs) (List.length S1) n i S2) fun S3 => Pre1 S1 S3 ∧ At S3 (List.length S1) (.dct (tab (uniq l) v)) := by
    intro n
    induction n with
    | zero => intro i S2 h1 h2; omega
    | succ n ih =>
      intro i S2 h1 h2 h3 h4
      unfold dcL
      rw [it S2 h3 i]
      cases e : l[i]? with
      | none =>
        have : i = l.length := by
          have := List.getElem?_eq_none_iff.mp e; omega
        subst this
        rw [List.take_length] at h4
        rw [List.getElem?_map, e]
        exact W_some.mpr ⟨h3, h4⟩
      | some c =>
        have hlt : i < l.length := (List.getElem?_eq_some_iff.mp e).1
        rw [List.getElem?_map, e]
        obtain ⟨⟨σ2, S3⟩, e1, q1⟩ := hstep i c e S2 (p1.trans h3)
        dsimp only [Option.map]
        rw [e1]
        dsimp only [yesB]
        obtain ⟨⟨y, S4⟩, e2, q2, q3⟩ := q1
        dsimp only at e2 q2 q3
        rw [e2]; dsimp only
        obtain ⟨⟨z, S5⟩, e3, q4, q5⟩ := q3
        dsimp only at e3 q4 q5
        rw [e3]; dsimp only
        have h5 := h4.pre q5
        show W (match (S5 : List O)[List.length S1]? with | some (.dct kvs) => _ | _ => none) _
        rw [h5]; dsimp only
        have hl : (tab (uniq (l.take i)) v).length ≤ most := by
          have := uniq_len (l.take i)
          simp only [tab, List.length_map]
          simp only [List.length_take] at this
          omega
        rw [if_pos hl, q2, q4, if_pos (tab_kind _ _ _)]
        have et : l.take (i + 1) = l.take i ++ [c] := by
          rw [List.take_succ, e]; rfl
        have eu : uniq (l.take (i + 1)) = (if c ∈ uniq (l.take i) then uniq (l.take i) else uniq (l.take i) ++ [c]) := by
          rw [et, uniq, List.foldl_append]; rfl
        refine ih (i + 1) _ hlt (by omega) ((h3.trans q5).set (Nat.le_refl _) _) ?_
        rw [tab_put, eu]
        exact At.set h5.lt
  refine (main n 0 _ (Nat.zero_le _) (by omega) (List.prefix_append _ _) ?_).imp fun S3 q => ⟨_, rfl, p1.trans q.1, p1.len, q.2⟩
  exact At.new _ _
end RF

end

/-! ## B05 -/
section
set_option maxRecDepth 100000
namespace RF
open PySem
noncomputable section
/- picture_of: cells, tuple, sorted, set -/
def b_picture_of (lf : Nat) (pk : Pack) : SV := (seqV (retV (callE tupleG (consA (sortSetE (slotE 0)) nilA)))
  passV)
def m_picture_of : GC := runM 1 4 (b_picture_of LF PK0)
def mf_picture_of : GC := runM 1 4 (b_picture_of LF PKF)
theorem mq_picture_of : m_picture_of = mf_picture_of := by
  unfold m_picture_of mf_picture_of
  rw [pk_eq]
/- cell_table: cells, cell -/
def b_cell_table (lf : Nat) (pk : Pack) : SV := (seqV (retV (dcE (seqIV (slotE 0)) (setV 1) yesB (slotE 1) (valE (.bl true)) [1] lf))
  passV)
def m_cell_table : GC := runM 1 2 (b_cell_table LF PK0)
def mf_cell_table : GC := runM 1 2 (b_cell_table LF PKF)
theorem mq_cell_table : m_cell_table = mf_cell_table := by
  unfold m_cell_table mf_cell_table
  rw [pk_eq]
/- near_cells: cell, x, y, tuple, NEAR_STEPS -/
def b_near_cells (lf : Nat) (pk : Pack) : SV := (seqV (asgV (slotE 0) (unpackV 2 (consV (setV 1) (consV (setV 2) nilV))))
  (seqV (retV (genE (seqIV (valE c_NEAR_STEPS)) [none, none, none, some 1, some 2] (unpackV 2 (consV (setV 1) (consV (setV 2) nilV))) yesB (tupE (consA (bind2 (binD .Add) (slotE 3) (slotE 1)) (consA (bind2 (binD .Add) (slotE 4) (slotE 2)) nilA))) lf (eatTup lf)))
  passV))
def m_near_cells : GC := runM 1 5 (b_near_cells LF PK0)
def mf_near_cells : GC := runM 1 5 (b_near_cells LF PKF)
theorem mq_near_cells : m_near_cells = mf_near_cells := by
  unfold m_near_cells mf_near_cells
  rw [pk_eq]
/- quarter_turned: picture, k, cells, _, list, range, picture_of, x, y -/
def b_quarter_turned (lf : Nat) (pk : Pack) ( f_picture_of : GC) : SV := (seqV (asgV (callE listG (consA (slotE 0) nilA)) (setV 2))
  (seqV (forIV (rng1IV (consA (bind2 (binD .Mod) (slotE 1) (valE (.int 4))) nilA)) (setV 3)
    (seqV (asgV (lcE (seqIV (slotE 2)) (unpackV 2 (consV (setV 7) (consV (setV 8) nilV))) yesB (tupE (consA (negE (slotE 8)) (consA (slotE 7) nilA))) [7, 8] lf) (setV 2))
  passV) lf)
  (seqV (retV (callE f_picture_of (consA (slotE 2) nilA)))
  passV)))
def m_quarter_turned : GC := runM 2 9 (b_quarter_turned LF PK0 m_picture_of)
def mf_quarter_turned : GC := runM 2 9 (b_quarter_turned LF PKF mf_picture_of)
theorem mq_quarter_turned : m_quarter_turned = mf_quarter_turned := by
  unfold m_quarter_turned mf_quarter_turned
  rw [pk_eq, mq_picture_of]
/- mirrored: picture, picture_of, x, y -/
def b_mirrored (lf : Nat) (pk : Pack) ( f_picture_of : GC) : SV := (seqV (retV (callE f_picture_of (consA (lcE (seqIV (slotE 0)) (unpackV 2 (consV (setV 2) (consV (setV 3) nilV))) yesB (tupE (consA (negE (slotE 2)) (consA (slotE 3) nilA))) [2, 3] lf) nilA)))
  passV)
def m_mirrored : GC := runM 1 4 (b_mirrored LF PK0 m_picture_of)
def mf_mirrored : GC := runM 1 4 (b_mirrored LF PKF mf_picture_of)
theorem mq_mirrored : m_mirrored = mf_mirrored := by
  unfold m_mirrored mf_mirrored
  rw [pk_eq, mq_picture_of]
/- posed: picture, t, quarter_turned, mirrored -/
def b_posed (lf : Nat) (pk : Pack) ( f_quarter_turned f_mirrored : GC) : SV := (seqV (ifV (cmpB (bind2 (cmpD .GtE) (slotE 1) (valE (.int 4))))
    (seqV (retV (callE f_quarter_turned (consA (callE f_mirrored (consA (slotE 0) nilA)) (consA (slotE 1) nilA))))
  passV)
    passV)
  (seqV (retV (callE f_quarter_turned (consA (slotE 0) (consA (slotE 1) nilA))))
  passV))
def m_posed : GC := runM 2 4 (b_posed LF PK0 m_quarter_turned m_mirrored)
def mf_posed : GC := runM 2 4 (b_posed LF PKF mf_quarter_turned mf_mirrored)
theorem mq_posed : m_posed = mf_posed := by
  unfold m_posed mf_posed
  rw [pk_eq, mq_quarter_turned, mq_mirrored]
/- lot_from: table, start, steps, found, waiting, x, y, dx, dy, cell, tuple, sorted -/
def b_lot_from (lf : Nat) (pk : Pack) : SV := (seqV (asgV (disp1E (slotE 1) (valE (.bl true))) (setV 3))
  (seqV (asgV (lstE (consA (slotE 1) nilA)) (setV 4))
  (seqV (whileV (truE (slotE 4))
    (seqV (asgV (methE (some popG) (some dpopG) (slotE 4) nilA) (unpackV 2 (consV (setV 5) (consV (setV 6) nilV))))
  (seqV (forIV (seqIV (slotE 2)) (unpackV 2 (consV (setV 7) (consV (setV 8) nilV)))
    (seqV (asgV (tupE (consA (bind2 (binD .Add) (slotE 5) (slotE 7)) (consA (bind2 (binD .Add) (slotE 6) (slotE 8)) nilA))) (setV 9))
  (seqV (ifV (andB (cmpB (bind2 pk.isin (slotE 9) (slotE 0))) (cmpB (bind2 pk.nin (slotE 9) (slotE 3))))
    (seqV (asgV (valE (.bl true)) (subV (slotE 3) (slotE 9)))
  (seqV (dropV (methE (some appendG) none (slotE 4) (consA (slotE 9) nilA)))
  passV))
    passV)
  passV)) lf)
  passV)) lf)
  (seqV (retV (callE tupleG (consA (callE pk.srt (consA (slotE 3) nilA)) nilA)))
  passV))))
def m_lot_from : GC := runM 3 12 (b_lot_from LF PK0)
def mf_lot_from : GC := runM 3 12 (b_lot_from LF PKF)
theorem mq_lot_from : m_lot_from = mf_lot_from := by
  unfold m_lot_from mf_lot_from
  rw [pk_eq]
/- lots_in: cells, steps, left, lots, cell, lot, each, cell_table, lot_from, tuple -/
def b_lots_in (lf : Nat) (pk : Pack) ( f_cell_table f_lot_from : GC) : SV := (seqV (asgV (callE f_cell_table (consA (slotE 0) nilA)) (setV 2))
  (seqV (asgV (lstE nilA) (setV 3))
  (seqV (forIV (seqIV (slotE 0)) (setV 4)
    (seqV (ifV (cmpB (bind2 pk.isin (slotE 4) (slotE 2)))
    (seqV (asgV (callE f_lot_from (consA (slotE 2) (consA (slotE 4) (consA (slotE 1) nilA)))) (setV 5))
  (seqV (dropV (methE (some appendG) none (slotE 3) (consA (slotE 5) nilA)))
  (seqV (forIV (seqIV (slotE 5)) (setV 6)
    (seqV (delV (slotE 2) (slotE 6))
  passV) lf)
  passV)))
    passV)
  passV) lf)
  (seqV (retV (callE tupleG (consA (slotE 3) nilA)))
  passV))))
def m_lots_in : GC := runM 2 10 (b_lots_in LF PK0 m_cell_table m_lot_from)
def mf_lots_in : GC := runM 2 10 (b_lots_in LF PKF mf_cell_table mf_lot_from)
theorem mq_lots_in : m_lots_in = mf_lots_in := by
  unfold m_lots_in mf_lots_in
  rw [pk_eq, mq_cell_table, mq_lot_from]
/- code_in: table, cell, x, y, code, bit, dx, dy, NEAR_STEPS -/
def b_code_in (lf : Nat) (pk : Pack) : SV := (seqV (asgV (slotE 1) (unpackV 2 (consV (setV 2) (consV (setV 3) nilV))))
  (seqV (asgV (valE (.int 0)) (setV 4))
  (seqV (asgV (valE (.int 1)) (setV 5))
  (seqV (forIV (seqIV (valE c_NEAR_STEPS)) (unpackV 2 (consV (setV 6) (consV (setV 7) nilV)))
    (seqV (ifV (cmpB (bind2 pk.isin (tupE (consA (bind2 (binD .Add) (slotE 2) (slotE 6)) (consA (bind2 (binD .Add) (slotE 3) (slotE 7)) nilA))) (slotE 0)))
    (seqV (augV 4 .Add (slotE 5))
  passV)
    passV)
  (seqV (augV 5 .Add (slotE 5))
  passV)) lf)
  (seqV (retV (slotE 4))
  passV)))))
def m_code_in : GC := runM 2 9 (b_code_in LF PK0)
def mf_code_in : GC := runM 2 9 (b_code_in LF PKF)
theorem mq_code_in : m_code_in = mf_code_in := by
  unfold m_code_in mf_code_in
  rw [pk_eq]
/- code_at: picture, cell, code_in, cell_table -/
def b_code_at (lf : Nat) (pk : Pack) ( f_code_in f_cell_table : GC) : SV := (seqV (retV (callE f_code_in (consA (callE f_cell_table (consA (slotE 0) nilA)) (consA (slotE 1) nilA))))
  passV)
def m_code_at : GC := runM 2 4 (b_code_at LF PK0 m_code_in m_cell_table)
def mf_code_at : GC := runM 2 4 (b_code_at LF PKF mf_code_in mf_cell_table)
theorem mq_code_at : m_code_at = mf_code_at := by
  unfold m_code_at mf_code_at
  rw [pk_eq, mq_code_in, mq_cell_table]
/- code_numbers: code, tuple, range -/
def b_code_numbers (lf : Nat) (pk : Pack) : SV := (seqV (retV (genE (rng1IV (consA (valE (.int 8)) nilA)) [none, none, some 0] (setV 1) (truE (bind2 (binD .BitAnd) (bind2 (binD .RShift) (slotE 2) (slotE 1)) (valE (.int 1)))) (slotE 1) lf (eatTup lf)))
  passV)
def m_code_numbers : GC := runM 1 3 (b_code_numbers LF PK0)
def mf_code_numbers : GC := runM 1 3 (b_code_numbers LF PKF)
theorem mq_code_numbers : m_code_numbers = mf_code_numbers := by
  unfold m_code_numbers mf_code_numbers
  rw [pk_eq]
/- code_with: numbers, sum -/
def b_code_with (lf : Nat) (pk : Pack) : SV := (seqV (retV (genE (seqIV (slotE 0)) [none, none] (setV 1) yesB (bind2 (binD .LShift) (valE (.int 1)) (slotE 1)) lf (eatSum lf)))
  passV)
def m_code_with : GC := runM 1 2 (b_code_with LF PK0)
def mf_code_with : GC := runM 1 2 (b_code_with LF PKF)
theorem mq_code_with : m_code_with = mf_code_with := by
  unfold m_code_with mf_code_with
  rw [pk_eq]
/- cells_of_code: cell, code, near, near_cells, picture_of, code_numbers, number -/
def b_cells_of_code (lf : Nat) (pk : Pack) ( f_near_cells f_picture_of f_code_numbers : GC) : SV := (seqV (asgV (callE f_near_cells (consA (slotE 0) nilA)) (setV 2))
  (seqV (retV (callE f_picture_of (consA (lcE (seqIV (callE f_code_numbers (consA (slotE 1) nilA))) (setV 6) yesB (bind2 ixD (slotE 2) (slotE 6)) [6] lf) nilA)))
  passV))
def m_cells_of_code : GC := runM 2 7 (b_cells_of_code LF PK0 m_near_cells m_picture_of m_code_numbers)
def mf_cells_of_code : GC := runM 2 7 (b_cells_of_code LF PKF mf_near_cells mf_picture_of mf_code_numbers)
theorem mq_cells_of_code : m_cells_of_code = mf_cells_of_code := by
  unfold m_cells_of_code mf_cells_of_code
  rw [pk_eq, mq_near_cells, mq_picture_of, mq_code_numbers]
/- turned_code: code, t, step, code_with, code_numbers, number -/
def b_turned_code (lf : Nat) (pk : Pack) ( f_code_with f_code_numbers : GC) : SV := (seqV (ifV (cmpB (bind2 (cmpD .GtE) (slotE 1) (valE (.int 4))))
    (seqV (asgV (callE f_code_with (consA (lcE (seqIV (callE f_code_numbers (consA (slotE 0) nilA))) (setV 5) yesB (bind2 (binD .Mod) (bind2 (binD .Sub) (valE (.int 4)) (slotE 5)) (valE (.int 8))) [5] lf) nilA)) (setV 0))
  passV)
    passV)
  (seqV (asgV (bind2 (binD .Mult) (valE (.int 2)) (bind2 (binD .Mod) (slotE 1) (valE (.int 4)))) (setV 2))
  (seqV (retV (bind2 (binD .BitAnd) (bind2 (binD .BitOr) (bind2 (binD .LShift) (slotE 0) (slotE 2)) (bind2 (binD .RShift) (slotE 0) (bind2 (binD .Sub) (valE (.int 8)) (slotE 2)))) (valE (.int 255))))
  passV)))
def m_turned_code : GC := runM 2 6 (b_turned_code LF PK0 m_code_with m_code_numbers)
def mf_turned_code : GC := runM 2 6 (b_turned_code LF PKF mf_code_with mf_code_numbers)
theorem mq_turned_code : m_turned_code = mf_turned_code := by
  unfold m_turned_code mf_turned_code
  rw [pk_eq, mq_code_with, mq_code_numbers]
/- number_lots: numbers, steps, number_of, cells, lots, enumerate, NEAR_STEPS, picture_of, lots_in, tuple, sorted, number, cell, lot -/
def b_number_lots (lf : Nat) (pk : Pack) ( f_picture_of f_lots_in : GC) : SV := (seqV (asgV (dcE (enumIV (valE c_NEAR_STEPS)) (unpackV 2 (consV (setV 11) (consV (setV 12) nilV))) yesB (slotE 12) (slotE 11) [11, 12] lf) (setV 2))
  (seqV (asgV (callE f_picture_of (consA (lcE (seqIV (slotE 0)) (setV 11) yesB (bind2 ixD (valE c_NEAR_STEPS) (slotE 11)) [11] lf) nilA)) (setV 3))
  (seqV (asgV (callE f_lots_in (consA (slotE 3) (consA (slotE 1) nilA))) (setV 4))
  (seqV (retV (callE tupleG (consA (callE pk.srt (consA (lcE (seqIV (slotE 4)) (setV 13) yesB (callE tupleG (consA (callE pk.srt (consA (lcE (seqIV (slotE 13)) (setV 12) yesB (bind2 ixD (slotE 2) (slotE 12)) [12] lf) nilA)) nilA)) [13] lf) nilA)) nilA)))
  passV))))
def m_number_lots : GC := runM 2 14 (b_number_lots LF PK0 m_picture_of m_lots_in)
def mf_number_lots : GC := runM 2 14 (b_number_lots LF PKF mf_picture_of mf_lots_in)
theorem mq_number_lots : m_number_lots = mf_number_lots := by
  unfold m_number_lots mf_number_lots
  rw [pk_eq, mq_picture_of, mq_lots_in]
/- code_pieces: code, number_lots, code_numbers, NEAR_STEPS -/
def b_code_pieces (lf : Nat) (pk : Pack) ( f_number_lots f_code_numbers : GC) : SV := (seqV (retV (callE f_number_lots (consA (callE f_code_numbers (consA (slotE 0) nilA)) (consA (valE c_NEAR_STEPS) nilA))))
  passV)
def m_code_pieces : GC := runM 1 4 (b_code_pieces LF PK0 m_number_lots m_code_numbers)
def mf_code_pieces : GC := runM 1 4 (b_code_pieces LF PKF mf_number_lots mf_code_numbers)
theorem mq_code_pieces : m_code_pieces = mf_code_pieces := by
  unfold m_code_pieces mf_code_pieces
  rw [pk_eq, mq_number_lots, mq_code_numbers]
/- code_rooms: code, number_lots, code_numbers, SIDE_STEPS -/
def b_code_rooms (lf : Nat) (pk : Pack) ( f_number_lots f_code_numbers : GC) : SV := (seqV (retV (callE f_number_lots (consA (callE f_code_numbers (consA (bind2 (binD .Sub) (valE (.int 255)) (slotE 0)) nilA)) (consA (valE c_SIDE_STEPS) nilA))))
  passV)
def m_code_rooms : GC := runM 1 4 (b_code_rooms LF PK0 m_number_lots m_code_numbers)
def mf_code_rooms : GC := runM 1 4 (b_code_rooms LF PKF mf_number_lots mf_code_numbers)
theorem mq_code_rooms : m_code_rooms = mf_code_rooms := by
  unfold m_code_rooms mf_code_rooms
  rw [pk_eq, mq_number_lots, mq_code_numbers]
/- is_simple_code: code, twice_round, ends, side, side_corner_side -/
def b_is_simple_code (lf : Nat) (pk : Pack) : SV := (seqV (asgV (bind2 (binD .BitOr) (bind2 (binD .LShift) (slotE 0) (valE (.int 8))) (slotE 0)) (setV 1))
  (seqV (asgV (valE (.int 0)) (setV 2))
  (seqV (forIV (seqIV (tupE (consA (valE (.int 0)) (consA (valE (.int 2)) (consA (valE (.int 4)) (consA (valE (.int 6)) nilA)))))) (setV 3)
    (seqV (asgV (bind2 (binD .BitAnd) (bind2 (binD .RShift) (slotE 1) (slotE 3)) (valE (.int 7))) (setV 4))
  (seqV (ifV (cmpB (bind2 pk.isin (slotE 4) (tupE (consA (valE (.int 2)) (consA (valE (.int 4)) (consA (valE (.int 6)) nilA))))))
    (seqV (augV 2 .Add (valE (.int 1)))
  passV)
    passV)
  passV)) lf)
  (seqV (retV (bind2 (cmpD .Eq) (slotE 2) (valE (.int 1))))
  passV))))
def m_is_simple_code : GC := runM 1 5 (b_is_simple_code LF PK0)
def mf_is_simple_code : GC := runM 1 5 (b_is_simple_code LF PKF)
theorem mq_is_simple_code : m_is_simple_code = mf_is_simple_code := by
  unfold m_is_simple_code mf_is_simple_code
  rw [pk_eq]
/- simple_codes: tuple, range -/
def b_simple_codes (lf : Nat) (pk : Pack) ( f_is_simple_code : GC) : SV := (seqV (retV (genE (rng1IV (consA (valE (.int 256)) nilA)) [none, none, none] (setV 1) (truE (callE f_is_simple_code (consA (slotE 1) nilA))) (slotE 1) lf (eatTup lf)))
  passV)
def m_simple_codes : GC := runM 0 2 (b_simple_codes LF PK0 m_is_simple_code)
def mf_simple_codes : GC := runM 0 2 (b_simple_codes LF PKF mf_is_simple_code)
theorem mq_simple_codes : m_simple_codes = mf_simple_codes := by
  unfold m_simple_codes mf_simple_codes
  rw [pk_eq, mq_is_simple_code]
/- is_simple_in: table, cell, is_simple_code, code_in -/
def b_is_simple_in (lf : Nat) (pk : Pack) ( f_is_simple_code f_code_in : GC) : SV := (seqV (retV (callE f_is_simple_code (consA (callE f_code_in (consA (slotE 0) (consA (slotE 1) nilA))) nilA)))
  passV)
def m_is_simple_in : GC := runM 2 4 (b_is_simple_in LF PK0 m_is_simple_code m_code_in)
def mf_is_simple_in : GC := runM 2 4 (b_is_simple_in LF PKF mf_is_simple_code mf_code_in)
theorem mq_is_simple_in : m_is_simple_in = mf_is_simple_in := by
  unfold m_is_simple_in mf_is_simple_in
  rw [pk_eq, mq_is_simple_code, mq_code_in]
/- is_simple: picture, cell, black, cell_table, is_simple_in -/
def b_is_simple (lf : Nat) (pk : Pack) ( f_cell_table f_is_simple_in : GC) : SV := (seqV (asgV (callE f_cell_table (consA (slotE 0) nilA)) (setV 2))
  (seqV (retV (andE (bind2 pk.isin (slotE 1) (slotE 2)) (callE f_is_simple_in (consA (slotE 2) (consA (slotE 1) nilA)))))
  passV))
def m_is_simple : GC := runM 2 5 (b_is_simple LF PK0 m_cell_table m_is_simple_in)
def mf_is_simple : GC := runM 2 5 (b_is_simple LF PKF mf_cell_table mf_is_simple_in)
theorem mq_is_simple : m_is_simple = mf_is_simple := by
  unfold m_is_simple mf_is_simple
  rw [pk_eq, mq_cell_table, mq_is_simple_in]
/- simple_cells: picture, black, cell_table, tuple -/
def b_simple_cells (lf : Nat) (pk : Pack) ( f_cell_table f_is_simple_in : GC) : SV := (seqV (asgV (callE f_cell_table (consA (slotE 0) nilA)) (setV 1))
  (seqV (retV (genE (seqIV (slotE 0)) [none, none, some 1, none] (setV 1) (truE (callE f_is_simple_in (consA (slotE 2) (consA (slotE 1) nilA)))) (slotE 1) lf (eatTup lf)))
  passV))
def m_simple_cells : GC := runM 1 4 (b_simple_cells LF PK0 m_cell_table m_is_simple_in)
def mf_simple_cells : GC := runM 1 4 (b_simple_cells LF PKF mf_cell_table mf_is_simple_in)
theorem mq_simple_cells : m_simple_cells = mf_simple_cells := by
  unfold m_simple_cells mf_simple_cells
  rw [pk_eq, mq_cell_table, mq_is_simple_in]
/- _law_open_cells: _law_script, _law_stirred, _law_cell, _law_cells, int -/
def b__law_open_cells (lf : Nat) (pk : Pack) : SV := (seqV (asgV (valE (.int 11)) (setV 1))
  (seqV (forIV (seqIV (slotE 0)) (setV 2)
    (seqV (asgV (bind2 (binD .Mod) (callE intG (consA (bind2 (binD .Add) (bind2 (binD .Add) (bind2 (binD .Mult) (slotE 1) (valE (.int 69069))) (bind2 (binD .Mult) (slotE 2) (valE (.int 31)))) (valE (.int 5))) nilA)) (valE (.int 2147483629))) (setV 1))
  passV) lf)
  (seqV (asgV (lcE (seqIV (slotE 0)) (setV 2) yesB (callE absG (consA (slotE 2) nilA)) [2] lf) (setV 3))
  (seqV (retV (dispE [((valE (.str "cells")), (revE (slotE 3))), ((valE (.str "left")), (valE (.int 1))), ((valE (.str "mixed")), (slotE 1)), ((valE (.str "turn")), (valE (.int 0)))]))
  passV))))
def m__law_open_cells : GC := runM 1 5 (b__law_open_cells LF PK0)
def mf__law_open_cells : GC := runM 1 5 (b__law_open_cells LF PKF)
theorem mq__law_open_cells : m__law_open_cells = mf__law_open_cells := by
  unfold m__law_open_cells mf__law_open_cells
  rw [pk_eq]
/- _law_pick: _law_source, _law_most, _law_cells, _law_others, _law_lap, _law_stirred, len, int -/
def b__law_pick (lf : Nat) (pk : Pack) : SV := (seqV (ifV (cmpB (bind2 (cmpD .Lt) (slotE 1) (valE (.int 2))))
    (seqV (retV (valE (.int 0)))
  passV)
    passV)
  (seqV (asgV (bind2 ixD (slotE 0) (valE (.str "cells"))) (setV 2))
  (seqV (whileV (andB (cmpB (bind2 (cmpD .Lt) (bind2 ixD (slotE 0) (valE (.str "left"))) (valE (.int 2)))) (cmpB (bind2 (cmpD .Gt) (callE lenG (consA (slotE 2) nilA)) (valE (.int 0)))))
    (seqV (asgV (methE (some popG) (some dpopG) (slotE 2) nilA) (subV (slotE 0) (valE (.str "left"))))
  passV) lf)
  (seqV (asgV (bind2 ixD (slotE 0) (valE (.str "left"))) (setV 3))
  (seqV (ifV (cmpB (bind2 (cmpD .Gt) (slotE 3) (valE (.int 1))))
    (seqV (asgV (bind2 (binD .FloorDiv) (slotE 3) (slotE 1)) (subV (slotE 0) (valE (.str "left"))))
  (seqV (retV (bind2 (binD .Mod) (callE intG (consA (slotE 3) nilA)) (slotE 1)))
  passV))
    passV)
  (seqV (asgV (bind2 (binD .Add) (bind2 ixD (slotE 0) (valE (.str "turn"))) (valE (.int 1))) (subV (slotE 0) (valE (.str "turn"))))
  (seqV (asgV (bind2 ixD (slotE 0) (valE (.str "turn"))) (setV 4))
  (seqV (asgV (bind2 (binD .Mod) (callE intG (consA (bind2 (binD .Add) (bind2 ixD (slotE 0) (valE (.str "mixed"))) (bind2 (binD .Mult) (slotE 4) (valE (.int 104729)))) nilA)) (valE (.int 998244353))) (setV 5))
  (seqV (asgV (bind2 (binD .Mod) (callE intG (consA (bind2 (binD .Add) (bind2 (binD .Mult) (slotE 5) (slotE 5)) (bind2 (binD .Mult) (slotE 4) (valE (.int 17)))) nilA)) (valE (.int 2147483647))) (setV 5))
  (seqV (retV (bind2 (binD .Mod) (callE intG (consA (bind2 (binD .FloorDiv) (slotE 5) (valE (.int 16))) nilA)) (slotE 1)))
  passV))))))))))
def m__law_pick : GC := runM 2 8 (b__law_pick LF PK0)
def mf__law_pick : GC := runM 2 8 (b__law_pick LF PKF)
theorem mq__law_pick : m__law_pick = mf__law_pick := by
  unfold m__law_pick mf__law_pick
  rw [pk_eq]
/- _law_any_order: _law_source, _law_things, _law_others, list, range, len, _law_lap -/
def b__law_any_order (lf : Nat) (pk : Pack) ( f__law_pick : GC) : SV := (seqV (asgV (callE listG (consA (slotE 1) nilA)) (setV 2))
  (seqV (retV (lcE (rng1IV (consA (callE lenG (consA (slotE 2) nilA)) nilA)) (setV 6) yesB (methE (some popG) (some dpopG) (slotE 2) (consA (callE f__law_pick (consA (slotE 0) (consA (callE lenG (consA (slotE 2) nilA)) nilA))) nilA)) [6] lf))
  passV))
def m__law_any_order : GC := runM 2 7 (b__law_any_order LF PK0 m__law_pick)
def mf__law_any_order : GC := runM 2 7 (b__law_any_order LF PKF mf__law_pick)
theorem mq__law_any_order : m__law_any_order = mf__law_any_order := by
  unfold m__law_any_order mf__law_any_order
  rw [pk_eq, mq__law_pick]
/- _law_sides: _law_cell, _law_x, _law_y -/
def b__law_sides (lf : Nat) (pk : Pack) : SV := (seqV (asgV (slotE 0) (unpackV 2 (consV (setV 1) (consV (setV 2) nilV))))
  (seqV (retV (lstE (consA (tupE (consA (bind2 (binD .Add) (slotE 1) (valE (.int 1))) (consA (slotE 2) nilA))) (consA (tupE (consA (slotE 1) (consA (bind2 (binD .Add) (slotE 2) (valE (.int 1))) nilA))) (consA (tupE (consA (bind2 (binD .Sub) (slotE 1) (valE (.int 1))) (consA (slotE 2) nilA))) (consA (tupE (consA (slotE 1) (consA (bind2 (binD .Sub) (slotE 2) (valE (.int 1))) nilA))) nilA))))))
  passV))
def m__law_sides : GC := runM 1 3 (b__law_sides LF PK0)
def mf__law_sides : GC := runM 1 3 (b__law_sides LF PKF)
theorem mq__law_sides : m__law_sides = mf__law_sides := by
  unfold m__law_sides mf__law_sides
  rw [pk_eq]
/- _law_near: _law_cell, _law_x, _law_y, _law_found -/
def b__law_near (lf : Nat) (pk : Pack) : SV := (seqV (asgV (slotE 0) (unpackV 2 (consV (setV 1) (consV (setV 2) nilV))))
  (seqV (asgV (lstE (consA (tupE (consA (bind2 (binD .Add) (slotE 1) (valE (.int 1))) (consA (slotE 2) nilA))) (consA (tupE (consA (bind2 (binD .Add) (slotE 1) (valE (.int 1))) (consA (bind2 (binD .Add) (slotE 2) (valE (.int 1))) nilA))) (consA (tupE (consA (slotE 1) (consA (bind2 (binD .Add) (slotE 2) (valE (.int 1))) nilA))) (consA (tupE (consA (bind2 (binD .Sub) (slotE 1) (valE (.int 1))) (consA (bind2 (binD .Add) (slotE 2) (valE (.int 1))) nilA))) nilA))))) (setV 3))
  (seqV (retV (bind2 (binD .Add) (slotE 3) (lstE (consA (tupE (consA (bind2 (binD .Sub) (slotE 1) (valE (.int 1))) (consA (slotE 2) nilA))) (consA (tupE (consA (bind2 (binD .Sub) (slotE 1) (valE (.int 1))) (consA (bind2 (binD .Sub) (slotE 2) (valE (.int 1))) nilA))) (consA (tupE (consA (slotE 1) (consA (bind2 (binD .Sub) (slotE 2) (valE (.int 1))) nilA))) (consA (tupE (consA (bind2 (binD .Add) (slotE 1) (valE (.int 1))) (consA (bind2 (binD .Sub) (slotE 2) (valE (.int 1))) nilA))) nilA)))))))
  passV)))
def m__law_near : GC := runM 1 4 (b__law_near LF PK0)
def mf__law_near : GC := runM 1 4 (b__law_near LF PKF)
theorem mq__law_near : m__law_near = mf__law_near := by
  unfold m__law_near mf__law_near
  rw [pk_eq]
/- _law_parts_by: _law_cells, _law_is_near, _law_cell, _law_left, _law_found, _law_some, _law_rest, _law_here, _law_late, dict, sorted, _law_near, _law_sides, tuple -/
def b__law_parts_by (lf : Nat) (pk : Pack) ( f__law_near f__law_sides : GC) : SV := (seqV (parV 3 4 (consA (callE dictG (consA (lcE (seqIV (slotE 0)) (setV 2) yesB (tupE (consA (slotE 2) (consA (valE (.int 0)) nilA))) [2] lf) nilA)) (consA (lstE nilA) nilA)))
  (seqV (forIV (seqIV (callE pk.srt (consA (slotE 0) nilA))) (setV 2)
    (seqV (ifV (cmpB (bind2 pk.isin (slotE 2) (slotE 3)))
    (seqV (parV 5 6 (consA (lstE nilA) (consA (lstE (consA (slotE 2) nilA)) nilA)))
  (seqV (dropV (methE (some popG) (some dpopG) (slotE 3) (consA (slotE 2) nilA)))
  (seqV (whileV (cmpB (bind2 (cmpD .NotEq) (slotE 6) (lstE nilA)))
    (seqV (asgV (methE (some popG) (some dpopG) (slotE 6) nilA) (setV 7))
  (seqV (dropV (methE (some appendG) none (slotE 5) (consA (slotE 7) nilA)))
  (seqV (forIV (seqIV (ifE (truE (slotE 1)) (callE f__law_near (consA (slotE 7) nilA)) (callE f__law_sides (consA (slotE 7) nilA)))) (setV 8)
    (seqV (ifV (cmpB (bind2 pk.isin (slotE 8) (slotE 3)))
    (seqV (dropV (methE (some popG) (some dpopG) (slotE 3) (consA (slotE 8) nilA)))
  (seqV (dropV (methE (some appendG) none (slotE 6) (consA (slotE 8) nilA)))
  passV))
    passV)
  passV) lf)
  passV))) lf)
  (seqV (dropV (methE (some appendG) none (slotE 4) (consA (callE tupleG (consA (callE pk.srt (consA (slotE 5) nilA)) nilA)) nilA)))
  passV))))
    passV)
  passV) lf)
  (seqV (retV (slotE 4))
  passV)))
def m__law_parts_by : GC := runM 2 14 (b__law_parts_by LF PK0 m__law_near m__law_sides)
def mf__law_parts_by : GC := runM 2 14 (b__law_parts_by LF PKF mf__law_near mf__law_sides)
theorem mq__law_parts_by : m__law_parts_by = mf__law_parts_by := by
  unfold m__law_parts_by mf__law_parts_by
  rw [pk_eq, mq__law_near, mq__law_sides]
/- _law_frame: _law_picture, _law_x, _law_xs, _law_ys, _law_found, range, min, max, _law_y -/
def b__law_frame (lf : Nat) (pk : Pack) : SV := (seqV (parV 2 3 (consA (bind2 (binD .Add) (lcE (seqIV (slotE 0)) (unpackV 2 (consV (setV 1) (consV (setV 8) nilV))) yesB (slotE 1) [1, 8] lf) (lstE (consA (valE (.int 0)) nilA))) (consA (bind2 (binD .Add) (lcE (seqIV (slotE 0)) (unpackV 2 (consV (setV 1) (consV (setV 8) nilV))) yesB (slotE 8) [1, 8] lf) (lstE (consA (valE (.int 0)) nilA))) nilA)))
  (seqV (asgV (lstE nilA) (setV 4))
  (seqV (forIV (rng2IV (consA (bind2 (binD .Sub) (callE (orG min2G (overG intsOf leastI)) (consA (slotE 2) nilA)) (valE (.int 2))) (consA (bind2 (binD .Add) (callE (orG max2G (overG intsOf mostI)) (consA (slotE 2) nilA)) (valE (.int 3))) nilA))) (setV 1)
    (seqV (asgV (bind2 (binD .Add) (slotE 4) (lcE (rng2IV (consA (bind2 (binD .Sub) (callE (orG min2G (overG intsOf leastI)) (consA (slotE 3) nilA)) (valE (.int 2))) (consA (bind2 (binD .Add) (callE (orG max2G (overG intsOf mostI)) (consA (slotE 3) nilA)) (valE (.int 3))) nilA))) (setV 8) yesB (tupE (consA (slotE 1) (consA (slotE 8) nilA))) [8] lf)) (setV 4))
  passV) lf)
  (seqV (retV (slotE 4))
  passV))))
def m__law_frame : GC := runM 1 9 (b__law_frame LF PK0)
def mf__law_frame : GC := runM 1 9 (b__law_frame LF PKF)
theorem mq__law_frame : m__law_frame = mf__law_frame := by
  unfold m__law_frame mf__law_frame
  rw [pk_eq]
/- _law_code: _law_picture, _law_cell, _law_black, _law_code_here, _law_step, _law_late, dict, _law_near, _law_one -/
def b__law_code (lf : Nat) (pk : Pack) ( f__law_near : GC) : SV := (seqV (par3V 2 3 4 (consA (callE dictG (consA (lcE (seqIV (slotE 0)) (setV 8) yesB (tupE (consA (slotE 8) (consA (valE (.int 0)) nilA))) [8] lf) nilA)) (consA (valE (.int 0)) (consA (valE (.int 1)) nilA))))
  (seqV (forIV (seqIV (callE f__law_near (consA (slotE 1) nilA))) (setV 5)
    (seqV (parV 3 4 (consA (bind2 (binD .Add) (slotE 3) (ifE (cmpB (bind2 pk.isin (slotE 5) (slotE 2))) (slotE 4) (valE (.int 0)))) (consA (bind2 (binD .Mult) (slotE 4) (valE (.int 2))) nilA)))
  passV) lf)
  (seqV (retV (slotE 3))
  passV)))
def m__law_code : GC := runM 2 9 (b__law_code LF PK0 m__law_near)
def mf__law_code : GC := runM 2 9 (b__law_code LF PKF mf__law_near)
theorem mq__law_code : m__law_code = mf__law_code := by
  unfold m__law_code mf__law_code
  rw [pk_eq, mq__law_near]
/- _law_round: _law_code_here, _law_found, _law_late, _law_near, int -/
def b__law_round (lf : Nat) (pk : Pack) ( f__law_near : GC) : SV := (seqV (asgV (lstE nilA) (setV 1))
  (seqV (forIV (seqIV (callE f__law_near (consA (tupE (consA (valE (.int 0)) (consA (valE (.int 0)) nilA))) nilA))) (setV 2)
    (seqV (ifV (cmpB (bind2 (cmpD .Eq) (bind2 (binD .Mod) (callE intG (consA (slotE 0) nilA)) (valE (.int 2))) (valE (.int 1))))
    (seqV (dropV (methE (some appendG) none (slotE 1) (consA (slotE 2) nilA)))
  passV)
    passV)
  (seqV (asgV (bind2 (binD .FloorDiv) (slotE 0) (valE (.int 2))) (setV 0))
  passV)) lf)
  (seqV (retV (slotE 1))
  passV)))
def m__law_round : GC := runM 1 5 (b__law_round LF PK0 m__law_near)
def mf__law_round : GC := runM 1 5 (b__law_round LF PKF mf__law_near)
theorem mq__law_round : m__law_round = mf__law_round := by
  unfold m__law_round mf__law_round
  rw [pk_eq, mq__law_near]
/- _law_is_simple: _law_code_here, _law_black, _law_white, _law_rooms, _law_round, _law_near, _law_parts_by, len, _law_cell, _law_room -/
def b__law_is_simple (lf : Nat) (pk : Pack) ( f__law_round f__law_near f__law_parts_by f__law_sides : GC) : SV := (seqV (asgV (callE f__law_round (consA (slotE 0) nilA)) (setV 1))
  (seqV (asgV (lcE (seqIV (callE f__law_near (consA (tupE (consA (valE (.int 0)) (consA (valE (.int 0)) nilA))) nilA))) (setV 8) (cmpB (bind2 pk.nin (slotE 8) (slotE 1))) (slotE 8) [8] lf) (setV 2))
  (seqV (asgV (lcE (seqIV (callE f__law_parts_by (consA (slotE 2) (consA (valE (.bl false)) nilA)))) (setV 9) (truE (callE (overG blsOf anyB) (consA (lcE (seqIV (callE f__law_sides (consA (tupE (consA (valE (.int 0)) (consA (valE (.int 0)) nilA))) nilA))) (setV 8) yesB (bind2 pk.isin (slotE 8) (slotE 9)) [8] lf) nilA))) (slotE 9) [9] lf) (setV 3))
  (seqV (retV (andE (bind2 (cmpD .Eq) (callE lenG (consA (slotE 3) nilA)) (valE (.int 1))) (bind2 (cmpD .Eq) (callE lenG (consA (callE f__law_parts_by (consA (slotE 1) (consA (valE (.bl true)) nilA))) nilA)) (valE (.int 1)))))
  passV))))
def m__law_is_simple : GC := runM 1 10 (b__law_is_simple LF PK0 m__law_round m__law_near m__law_parts_by m__law_sides)
def mf__law_is_simple : GC := runM 1 10 (b__law_is_simple LF PKF mf__law_round mf__law_near mf__law_parts_by mf__law_sides)
theorem mq__law_is_simple : m__law_is_simple = mf__law_is_simple := by
  unfold m__law_is_simple mf__law_is_simple
  rw [pk_eq, mq__law_round, mq__law_near, mq__law_parts_by, mq__law_sides]
/- _law_draw_picture: _law_source, _law_most, _law_wide, _law_high, _law_found, _law_dense, _law_x, _law_pick, range, tuple, sorted, _law_y -/
def b__law_draw_picture (lf : Nat) (pk : Pack) ( f__law_pick : GC) : SV := (seqV (par3V 2 3 4 (consA (bind2 (binD .Add) (valE (.int 1)) (callE f__law_pick (consA (slotE 0) (consA (slotE 1) nilA)))) (consA (bind2 (binD .Add) (valE (.int 1)) (callE f__law_pick (consA (slotE 0) (consA (slotE 1) nilA)))) (consA (lstE nilA) nilA))))
  (seqV (asgV (bind2 ixD (lstE (consA (valE (.int 2)) (consA (valE (.int 3)) (consA (valE (.int 3)) (consA (valE (.int 5)) nilA))))) (callE f__law_pick (consA (slotE 0) (consA (valE (.int 4)) nilA)))) (setV 5))
  (seqV (forIV (rng1IV (consA (slotE 2) nilA)) (setV 6)
    (seqV (asgV (bind2 (binD .Add) (slotE 4) (lcE (rng1IV (consA (slotE 3) nilA)) (setV 11) (cmpB (bind2 (cmpD .Gt) (callE f__law_pick (consA (slotE 0) (consA (slotE 5) nilA))) (valE (.int 0)))) (tupE (consA (slotE 6) (consA (slotE 11) nilA))) [11] lf)) (setV 4))
  passV) lf)
  (seqV (retV (callE tupleG (consA (callE pk.srt (consA (slotE 4) nilA)) nilA)))
  passV))))
def m__law_draw_picture : GC := runM 2 12 (b__law_draw_picture LF PK0 m__law_pick)
def mf__law_draw_picture : GC := runM 2 12 (b__law_draw_picture LF PKF mf__law_pick)
theorem mq__law_draw_picture : m__law_draw_picture = mf__law_draw_picture := by
  unfold m__law_draw_picture mf__law_draw_picture
  rw [pk_eq, mq__law_pick]
/- _law_runs_of: _law_numbers_here, _law_is_near, _law_cells, _law_found, _law_lot, _law_near, _law_parts_by, tuple, sorted, _law_number, _law_cell -/
def b__law_runs_of (lf : Nat) (pk : Pack) ( f__law_near f__law_parts_by : GC) : SV := (seqV (asgV (callE f__law_near (consA (tupE (consA (valE (.int 0)) (consA (valE (.int 0)) nilA))) nilA)) (setV 2))
  (seqV (asgV (lstE nilA) (setV 3))
  (seqV (forIV (seqIV (callE f__law_parts_by (consA (lcE (seqIV (slotE 0)) (setV 9) yesB (bind2 ixD (slotE 2) (slotE 9)) [9] lf) (consA (slotE 1) nilA)))) (setV 4)
    (seqV (dropV (methE (some appendG) none (slotE 3) (consA (callE tupleG (consA (callE pk.srt (consA (lcE (seqIV (slotE 4)) (setV 10) yesB (methE (some indexG) none (slotE 2) (consA (slotE 10) nilA)) [10] lf) nilA)) nilA)) nilA)))
  passV) lf)
  (seqV (retV (callE tupleG (consA (callE pk.srt (consA (slotE 3) nilA)) nilA)))
  passV))))
def m__law_runs_of : GC := runM 2 11 (b__law_runs_of LF PK0 m__law_near m__law_parts_by)
def mf__law_runs_of : GC := runM 2 11 (b__law_runs_of LF PKF mf__law_near mf__law_parts_by)
theorem mq__law_runs_of : m__law_runs_of = mf__law_runs_of := by
  unfold m__law_runs_of mf__law_runs_of
  rw [pk_eq, mq__law_near, mq__law_parts_by]
/- _law_numbers: _law_code_here, _law_cells, _law_near, sorted, _law_round, _law_cell -/
def b__law_numbers (lf : Nat) (pk : Pack) ( f__law_near f__law_round : GC) : SV := (seqV (asgV (callE f__law_near (consA (tupE (consA (valE (.int 0)) (consA (valE (.int 0)) nilA))) nilA)) (setV 1))
  (seqV (retV (callE pk.srt (consA (lcE (seqIV (callE f__law_round (consA (slotE 0) nilA))) (setV 5) yesB (methE (some indexG) none (slotE 1) (consA (slotE 5) nilA)) [5] lf) nilA)))
  passV))
def m__law_numbers : GC := runM 1 6 (b__law_numbers LF PK0 m__law_near m__law_round)
def mf__law_numbers : GC := runM 1 6 (b__law_numbers LF PKF mf__law_near mf__law_round)
theorem mq__law_numbers : m__law_numbers = mf__law_numbers := by
  unfold m__law_numbers mf__law_numbers
  rw [pk_eq, mq__law_near, mq__law_round]
/- _law_simple_in: _law_picture, _law_cell, _law_is_simple, _law_code -/
def b__law_simple_in (lf : Nat) (pk : Pack) ( f__law_is_simple f__law_code : GC) : SV := (seqV (retV (andE (bind2 pk.isin (slotE 1) (slotE 0)) (callE f__law_is_simple (consA (callE f__law_code (consA (slotE 0) (consA (slotE 1) nilA))) nilA))))
  passV)
def m__law_simple_in : GC := runM 2 4 (b__law_simple_in LF PK0 m__law_is_simple m__law_code)
def mf__law_simple_in : GC := runM 2 4 (b__law_simple_in LF PKF mf__law_is_simple mf__law_code)
theorem mq__law_simple_in : m__law_simple_in = mf__law_simple_in := by
  unfold m__law_simple_in mf__law_simple_in
  rw [pk_eq, mq__law_is_simple, mq__law_code]
/- _law_draw_apart: _law_source, _law_most, _law_road, _law_wide, _law_high, _law_cells, _law_x, _law_rim, _law_pick, _law_draw_picture, range, tuple, _law_y, _law_cell -/
def b__law_draw_apart (lf : Nat) (pk : Pack) ( f__law_pick f__law_draw_picture : GC) : SV := (seqV (asgV (callE f__law_pick (consA (slotE 0) (consA (valE (.int 6)) nilA))) (setV 2))
  (seqV (ifV (cmpB (bind2 (cmpD .Lt) (slotE 2) (valE (.int 4))))
    (seqV (retV (callE f__law_draw_picture (consA (slotE 0) (consA (slotE 1) nilA))))
  passV)
    passV)
  (seqV (asgV (tupE (consA (bind2 (binD .Add) (valE (.int 2)) (callE f__law_pick (consA (slotE 0) (consA (bind2 (binD .Sub) (slotE 1) (valE (.int 1))) nilA)))) (consA (bind2 (binD .Add) (valE (.int 2)) (callE f__law_pick (consA (slotE 0) (consA (bind2 (binD .Sub) (slotE 1) (valE (.int 1))) nilA)))) nilA))) (unpackV 2 (consV (setV 3) (consV (setV 4) nilV))))
  (seqV (asgV (lstE nilA) (setV 5))
  (seqV (forIV (rng1IV (consA (slotE 3) nilA)) (setV 6)
    (seqV (asgV (bind2 (binD .Add) (slotE 5) (lcE (rng1IV (consA (slotE 4) nilA)) (setV 12) yesB (tupE (consA (slotE 6) (consA (slotE 12) nilA))) [12] lf)) (setV 5))
  passV) lf)
  (seqV (ifV (cmpB (bind2 (cmpD .Eq) (slotE 2) (valE (.int 5))))
    (seqV (retV (callE tupleG (consA (lcE (seqIV (slotE 5)) (setV 13) (cmpB (bind2 (cmpD .Gt) (callE f__law_pick (consA (slotE 0) (consA (valE (.int 9)) nilA))) (valE (.int 0)))) (slotE 13) [13] lf) nilA)))
  passV)
    passV)
  (seqV (asgV (lcE (seqIV (slotE 5)) (setV 13) (orB (cmpB (bind2 pk.isin (bind2 ixD (slotE 13) (valE (.int 0))) (tupE (consA (valE (.int 0)) (consA (bind2 (binD .Sub) (slotE 3) (valE (.int 1))) nilA))))) (cmpB (bind2 pk.isin (bind2 ixD (slotE 13) (valE (.int 1))) (tupE (consA (valE (.int 0)) (consA (bind2 (binD .Sub) (slotE 4) (valE (.int 1))) nilA)))))) (slotE 13) [13] lf) (setV 7))
  (seqV (retV (callE tupleG (consA (lcE (seqIV (slotE 5)) (setV 13) (orB (cmpB (bind2 pk.isin (slotE 13) (slotE 7))) (cmpB (bind2 (cmpD .Eq) (callE f__law_pick (consA (slotE 0) (consA (valE (.int 4)) nilA))) (valE (.int 0))))) (slotE 13) [13] lf) nilA)))
  passV))))))))
def m__law_draw_apart : GC := runM 2 14 (b__law_draw_apart LF PK0 m__law_pick m__law_draw_picture)
def mf__law_draw_apart : GC := runM 2 14 (b__law_draw_apart LF PKF mf__law_pick mf__law_draw_picture)
theorem mq__law_draw_apart : m__law_draw_apart = mf__law_draw_apart := by
  unfold m__law_draw_apart mf__law_draw_apart
  rw [pk_eq, mq__law_pick, mq__law_draw_picture]
/- _law_turned_cell: _law_cell, _law_t, _law_x, _law_y, _law_lap, range -/
def b__law_turned_cell (lf : Nat) (pk : Pack) : SV := (seqV (asgV (slotE 0) (unpackV 2 (consV (setV 2) (consV (setV 3) nilV))))
  (seqV (asgV (ifE (cmpB (bind2 (cmpD .GtE) (slotE 1) (valE (.int 4)))) (bind2 (binD .Sub) (valE (.int 0)) (slotE 2)) (slotE 2)) (setV 2))
  (seqV (forIV (rng1IV (consA (ifE (cmpB (bind2 (cmpD .Lt) (slotE 1) (valE (.int 4)))) (slotE 1) (bind2 (binD .Sub) (slotE 1) (valE (.int 4)))) nilA)) (setV 4)
    (seqV (parV 2 3 (consA (bind2 (binD .Sub) (valE (.int 0)) (slotE 3)) (consA (slotE 2) nilA)))
  passV) lf)
  (seqV (retV (tupE (consA (slotE 2) (consA (slotE 3) nilA))))
  passV))))
def m__law_turned_cell : GC := runM 2 6 (b__law_turned_cell LF PK0)
def mf__law_turned_cell : GC := runM 2 6 (b__law_turned_cell LF PKF)
theorem mq__law_turned_cell : m__law_turned_cell = mf__law_turned_cell := by
  unfold m__law_turned_cell mf__law_turned_cell
  rw [pk_eq]
/- _law_code_right: _law_code_here, _law_numbers_here, _law_white, _law_numbers, range, code_numbers, tuple, code_pieces, _law_runs_of, code_rooms, repr, is_simple_code, _law_is_simple, cells_of_code, sorted, _law_round, _law_number, _law_x, _law_y -/
def b__law_code_right (lf : Nat) (pk : Pack) ( f__law_numbers f_code_numbers f_code_pieces f__law_runs_of f_code_rooms f_is_simple_code f__law_is_simple f_cells_of_code f__law_round : GC) : SV := (seqV (asgV (callE f__law_numbers (consA (slotE 0) nilA)) (setV 1))
  (seqV (asgV (lcE (rng1IV (consA (valE (.int 8)) nilA)) (setV 16) (cmpB (bind2 pk.nin (slotE 16) (slotE 1))) (slotE 16) [16] lf) (setV 2))
  (seqV (ifV (orB (cmpB (bind2 (cmpD .NotEq) (callE f_code_numbers (consA (slotE 0) nilA)) (callE tupleG (consA (slotE 1) nilA)))) (cmpB (bind2 (cmpD .NotEq) (callE f_code_pieces (consA (slotE 0) nilA)) (callE f__law_runs_of (consA (slotE 1) (consA (valE (.bl true)) nilA))))))
    (seqV (retV (valE (.bl false)))
  passV)
    passV)
  (seqV (ifV (orB (cmpB (bind2 (cmpD .NotEq) (callE f_code_rooms (consA (slotE 0) nilA)) (callE f__law_runs_of (consA (slotE 2) (consA (valE (.bl false)) nilA))))) (cmpB (bind2 (cmpD .NotEq) (callE reprG (consA (callE f_is_simple_code (consA (slotE 0) nilA)) nilA)) (callE reprG (consA (callE f__law_is_simple (consA (slotE 0) nilA)) nilA)))))
    (seqV (retV (valE (.bl false)))
  passV)
    passV)
  (seqV (retV (bind2 (cmpD .Eq) (callE f_cells_of_code (consA (tupE (consA (valE (.int 3)) (consA (bind2 (binD .Sub) (valE (.int 0)) (valE (.int 4))) nilA))) (consA (slotE 0) nilA))) (callE tupleG (consA (callE pk.srt (consA (lcE (seqIV (callE f__law_round (consA (slotE 0) nilA))) (unpackV 2 (consV (setV 17) (consV (setV 18) nilV))) yesB (tupE (consA (bind2 (binD .Add) (slotE 17) (valE (.int 3))) (consA (bind2 (binD .Sub) (slotE 18) (valE (.int 4))) nilA))) [17, 18] lf) nilA)) nilA))))
  passV)))))
def m__law_code_right : GC := runM 1 19 (b__law_code_right LF PK0 m__law_numbers m_code_numbers m_code_pieces m__law_runs_of m_code_rooms m_is_simple_code m__law_is_simple m_cells_of_code m__law_round)
def mf__law_code_right : GC := runM 1 19 (b__law_code_right LF PKF mf__law_numbers mf_code_numbers mf_code_pieces mf__law_runs_of mf_code_rooms mf_is_simple_code mf__law_is_simple mf_cells_of_code mf__law_round)
theorem mq__law_code_right : m__law_code_right = mf__law_code_right := by
  unfold m__law_code_right mf__law_code_right
  rw [pk_eq, mq__law_numbers, mq_code_numbers, mq_code_pieces, mq__law_runs_of, mq_code_rooms, mq_is_simple_code, mq__law_is_simple, mq_cells_of_code, mq__law_round]
/- law: _law_script, _law_source, _law_codes, _law_code_here, _law_t, _law_cell, _law_cells, _law_lap, _law_picture, _law_frame_here, _law_late, _law_open_cells, _law_any_order, list, range, any, simple_codes, tuple, _law_pick, _law_round, turned_code, _law_code, _law_draw_apart, _law_frame, posed, sorted, code_at, _law_turned_cell, repr, is_simple, _law_simple_in, simple_cells -/
def b_law (lf : Nat) (pk : Pack) ( f__law_open_cells f__law_any_order f__law_code_right f_simple_codes f__law_is_simple f__law_pick f__law_turned_cell f__law_round f_turned_code f__law_code f__law_draw_apart f__law_frame f_posed f_code_at f_is_simple f__law_simple_in f_simple_cells : GC) : SV := (seqV (asgV (callE f__law_open_cells (consA (slotE 0) nilA)) (setV 1))
  (seqV (asgV (sliceE (callE f__law_any_order (consA (slotE 1) (consA (listRg (rng1IV (consA (valE (.int 256)) nilA))) nilA))) noP (someP (valE (.int 40)))) (setV 2))
  (seqV (ifV (truE (callE (overG blsOf anyB) (consA (lcE (seqIV (slotE 2)) (setV 3) yesB (notE (callE f__law_code_right (consA (slotE 3) nilA))) [3] lf) nilA)))
    (seqV (retV (valE (.bl false)))
  passV)
    passV)
  (seqV (ifV (cmpB (bind2 (cmpD .NotEq) (callE f_simple_codes nilA) (callE tupleG (consA (lcE (rng1IV (consA (valE (.int 256)) nilA)) (setV 3) (truE (callE f__law_is_simple (consA (slotE 3) nilA))) (slotE 3) [3] lf) nilA))))
    (seqV (retV (valE (.bl false)))
  passV)
    passV)
  (seqV (forIV (seqIV (sliceE (slotE 2) noP (someP (valE (.int 12))))) (setV 3)
    (seqV (asgV (callE f__law_pick (consA (slotE 1) (consA (valE (.int 8)) nilA))) (setV 4))
  (seqV (asgV (lcE (seqIV (callE f__law_round (consA (slotE 3) nilA))) (setV 5) yesB (callE f__law_turned_cell (consA (slotE 5) (consA (slotE 4) nilA))) [5] lf) (setV 6))
  (seqV (ifV (cmpB (bind2 (cmpD .NotEq) (callE f_turned_code (consA (slotE 3) (consA (slotE 4) nilA))) (callE f__law_code (consA (slotE 6) (consA (tupE (consA (valE (.int 0)) (consA (valE (.int 0)) nilA))) nilA)))))
    (seqV (retV (valE (.bl false)))
  passV)
    passV)
  passV))) lf)
  (seqV (forIV (rng1IV (consA (valE (.int 2)) nilA)) (setV 7)
    (seqV (asgV (callE f__law_draw_apart (consA (slotE 1) (consA (valE (.int 6)) nilA))) (setV 8))
  (seqV (asgV (tupE (consA (callE f__law_frame (consA (slotE 8) nilA)) (consA (callE f__law_pick (consA (slotE 1) (consA (valE (.int 8)) nilA))) nilA))) (unpackV 2 (consV (setV 9) (consV (setV 4) nilV))))
  (seqV (asgV (callE f_posed (consA (slotE 8) (consA (slotE 4) nilA))) (setV 10))
  (seqV (ifV (cmpB (bind2 (cmpD .NotEq) (slotE 10) (callE tupleG (consA (callE pk.srt (consA (lcE (seqIV (slotE 8)) (setV 5) yesB (callE f__law_turned_cell (consA (slotE 5) (consA (slotE 4) nilA))) [5] lf) nilA)) nilA))))
    (seqV (retV (valE (.bl false)))
  passV)
    passV)
  (seqV (forIV (seqIV (sliceE (callE f__law_any_order (consA (slotE 1) (consA (slotE 9) nilA))) noP (someP (valE (.int 14))))) (setV 5)
    (seqV (asgV (callE f__law_code (consA (slotE 8) (consA (slotE 5) nilA))) (setV 3))
  (seqV (ifV (orB (cmpB (bind2 (cmpD .NotEq) (callE f_code_at (consA (slotE 8) (consA (slotE 5) nilA))) (slotE 3))) (cmpB (bind2 (cmpD .NotEq) (callE f_code_at (consA (slotE 10) (consA (callE f__law_turned_cell (consA (slotE 5) (consA (slotE 4) nilA))) nilA))) (callE f_turned_code (consA (slotE 3) (consA (slotE 4) nilA))))))
    (seqV (retV (valE (.bl false)))
  passV)
    passV)
  (seqV (ifV (cmpB (bind2 (cmpD .NotEq) (callE reprG (consA (callE f_is_simple (consA (slotE 8) (consA (slotE 5) nilA))) nilA)) (callE reprG (consA (callE f__law_simple_in (consA (slotE 8) (consA (slotE 5) nilA))) nilA))))
    (seqV (retV (valE (.bl false)))
  passV)
    passV)
  passV))) lf)
  (seqV (ifV (cmpB (bind2 (cmpD .NotEq) (callE f_simple_cells (consA (slotE 8) nilA)) (callE tupleG (consA (lcE (seqIV (slotE 8)) (setV 5) (truE (callE f__law_simple_in (consA (slotE 8) (consA (slotE 5) nilA)))) (slotE 5) [5] lf) nilA))))
    (seqV (retV (valE (.bl false)))
  passV)
    passV)
  passV)))))) lf)
  (seqV (retV (valE (.bl true)))
  passV)))))))
def m_law : GC := runM 1 32 (b_law LF PK0 m__law_open_cells m__law_any_order m__law_code_right m_simple_codes m__law_is_simple m__law_pick m__law_turned_cell m__law_round m_turned_code m__law_code m__law_draw_apart m__law_frame m_posed m_code_at m_is_simple m__law_simple_in m_simple_cells)
def mf_law : GC := runM 1 32 (b_law LF PKF mf__law_open_cells mf__law_any_order mf__law_code_right mf_simple_codes mf__law_is_simple mf__law_pick mf__law_turned_cell mf__law_round mf_turned_code mf__law_code mf__law_draw_apart mf__law_frame mf_posed mf_code_at mf_is_simple mf__law_simple_in mf_simple_cells)
theorem mq_law : m_law = mf_law := by
  unfold m_law mf_law
  rw [pk_eq, mq__law_open_cells, mq__law_any_order, mq__law_code_right, mq_simple_codes, mq__law_is_simple, mq__law_pick, mq__law_turned_cell, mq__law_round, mq_turned_code, mq__law_code, mq__law_draw_apart, mq__law_frame, mq_posed, mq_code_at, mq_is_simple, mq__law_simple_in, mq_simple_cells]

end
end RF

end

/-! ## H05 -/
section
set_option maxRecDepth 100000
set_option maxHeartbeats 4000000
namespace RF
open PySem
theorem sh_m_picture_of : ShC m_picture_of := by
  unfold m_picture_of b_picture_of
  refine sh_runM ?_
  repeat' with_reducible (first | assumption | exact sh_pass | exact sh_break | exact sh_cont | exact sh_retN | refine sh_seqV ?_ ?_ | refine sh_ret ?_ | refine sh_drop ?_ | refine sh_ifV ?_ ?_ ?_ | refine sh_forIV ?_ ?_ ?_ | refine sh_while ?_ ?_ _ | refine sh_asgV ?_ ?_ | refine sh_parV ?_ | refine sh_par3V ?_ | refine sh_augV ?_ | refine sh_delV ?_ ?_ | exact sh_slotE _ | exact sh_valE (fl_int _) | exact sh_valE (fl_bl _) | exact sh_valE (fl_str _) | exact sh_valE fl_non | exact sh_valE fl_near | exact sh_valE fl_side | refine sh_bind2 ?_ ?_ ?_ | exact sh_bin _ | exact sh_cmp _ | exact sh_ixD | refine sh_chain ?_ ?_ ?_ ?_ ?_ | refine sh_negE ?_ | refine sh_notE ?_ | refine sh_andE ?_ ?_ | refine sh_orE ?_ ?_ | refine sh_ifE ?_ ?_ ?_ | refine sh_tupE ?_ | refine sh_lstE ?_ | exact sh_nilA | refine sh_consA ?_ ?_ | refine sh_callE ?_ ?_ | exact sh_lenG | exact sh_tupleG | exact sh_listG | exact sh_absG | exact sh_intG | exact sh_minG | exact sh_maxG | exact sh_sum | exact sh_any | exact sh_all | exact sh_pk_srt | exact sh_pk_in | exact sh_pk_nin | exact sh_dictG | exact sh_reprG | refine sh_sortSet ?_ | exact sh_dict0 | refine sh_disp1 ?_ ?_ | refine sh_disp ?_ | exact shpr_nil | refine shpr_cons ?_ ?_ ?_ | refine sh_slice ?_ ?_ ?_ | exact sh_noP | refine sh_someP ?_ | refine sh_rev ?_ | refine sh_methE ?_ ?_ ?_ ?_ | exact shmo_none | exact shmo_app | exact shmo_pop | exact shmo_dpop | exact shmo_index | refine sh_cmpB ?_ | refine sh_truE ?_ | refine sh_notB ?_ | refine sh_andB ?_ ?_ | refine sh_orB ?_ ?_ | exact sh_yesB | refine sh_lcE ?_ ?_ ?_ ?_ | refine sh_dcE ?_ ?_ ?_ ?_ ?_ | refine sh_genE ?_ ?_ ?_ ?_ ?_ | exact sh_eatAny _ | exact sh_eatAll _ | exact sh_eatSum _ | exact sh_eatTup _ | refine sh_seqIV ?_ | refine sh_enumIV ?_ | refine sh_rng1 ?_ | refine sh_rng2 ?_ | refine sh_listRg ?_ | exact sh_setV _ | refine sh_unpack ?_ | exact sh_nilV | refine sh_consV ?_ ?_ | refine sh_subV ?_ ?_)
theorem sh_m_cell_table : ShC m_cell_table := by
  unfold m_cell_table b_cell_table
  refine sh_runM ?_
  repeat' with_reducible (first | assumption | exact sh_pass | exact sh_break | exact sh_cont | exact sh_retN | refine sh_seqV ?_ ?_ | refine sh_ret ?_ | refine sh_drop ?_ | refine sh_ifV ?_ ?_ ?_ | refine sh_forIV ?_ ?_ ?_ | refine sh_while ?_ ?_ _ | refine sh_asgV ?_ ?_ | refine sh_parV ?_ | refine sh_par3V ?_ | refine sh_augV ?_ | refine sh_delV ?_ ?_ | exact sh_slotE _ | exact sh_valE (fl_int _) | exact sh_valE (fl_bl _) | exact sh_valE (fl_str _) | exact sh_valE fl_non | exact sh_valE fl_near | exact sh_valE fl_side | refine sh_bind2 ?_ ?_ ?_ | exact sh_bin _ | exact sh_cmp _ | exact sh_ixD | refine sh_chain ?_ ?_ ?_ ?_ ?_ | refine sh_negE ?_ | refine sh_notE ?_ | refine sh_andE ?_ ?_ | refine sh_orE ?_ ?_ | refine sh_ifE ?_ ?_ ?_ | refine sh_tupE ?_ | refine sh_lstE ?_ | exact sh_nilA | refine sh_consA ?_ ?_ | refine sh_callE ?_ ?_ | exact sh_lenG | exact sh_tupleG | exact sh_listG | exact sh_absG | exact sh_intG | exact sh_minG | exact sh_maxG | exact sh_sum | exact sh_any | exact sh_all | exact sh_pk_srt | exact sh_pk_in | exact sh_pk_nin | exact sh_dictG | exact sh_reprG | refine sh_sortSet ?_ | exact sh_dict0 | refine sh_disp1 ?_ ?_ | refine sh_disp ?_ | exact shpr_nil | refine shpr_cons ?_ ?_ ?_ | refine sh_slice ?_ ?_ ?_ | exact sh_noP | refine sh_someP ?_ | refine sh_rev ?_ | refine sh_methE ?_ ?_ ?_ ?_ | exact shmo_none | exact shmo_app | exact shmo_pop | exact shmo_dpop | exact shmo_index | refine sh_cmpB ?_ | refine sh_truE ?_ | refine sh_notB ?_ | refine sh_andB ?_ ?_ | refine sh_orB ?_ ?_ | exact sh_yesB | refine sh_lcE ?_ ?_ ?_ ?_ | refine sh_dcE ?_ ?_ ?_ ?_ ?_ | refine sh_genE ?_ ?_ ?_ ?_ ?_ | exact sh_eatAny _ | exact sh_eatAll _ | exact sh_eatSum _ | exact sh_eatTup _ | refine sh_seqIV ?_ | refine sh_enumIV ?_ | refine sh_rng1 ?_ | refine sh_rng2 ?_ | refine sh_listRg ?_ | exact sh_setV _ | refine sh_unpack ?_ | exact sh_nilV | refine sh_consV ?_ ?_ | refine sh_subV ?_ ?_)
theorem sh_m_near_cells : ShC m_near_cells := by
  unfold m_near_cells b_near_cells
  refine sh_runM ?_
  repeat' with_reducible (first | assumption | exact sh_pass | exact sh_break | exact sh_cont | exact sh_retN | refine sh_seqV ?_ ?_ | refine sh_ret ?_ | refine sh_drop ?_ | refine sh_ifV ?_ ?_ ?_ | refine sh_forIV ?_ ?_ ?_ | refine sh_while ?_ ?_ _ | refine sh_asgV ?_ ?_ | refine sh_parV ?_ | refine sh_par3V ?_ | refine sh_augV ?_ | refine sh_delV ?_ ?_ | exact sh_slotE _ | exact sh_valE (fl_int _) | exact sh_valE (fl_bl _) | exact sh_valE (fl_str _) | exact sh_valE fl_non | exact sh_valE fl_near | exact sh_valE fl_side | refine sh_bind2 ?_ ?_ ?_ | exact sh_bin _ | exact sh_cmp _ | exact sh_ixD | refine sh_chain ?_ ?_ ?_ ?_ ?_ | refine sh_negE ?_ | refine sh_notE ?_ | refine sh_andE ?_ ?_ | refine sh_orE ?_ ?_ | refine sh_ifE ?_ ?_ ?_ | refine sh_tupE ?_ | refine sh_lstE ?_ | exact sh_nilA | refine sh_consA ?_ ?_ | refine sh_callE ?_ ?_ | exact sh_lenG | exact sh_tupleG | exact sh_listG | exact sh_absG | exact sh_intG | exact sh_minG | exact sh_maxG | exact sh_sum | exact sh_any | exact sh_all | exact sh_pk_srt | exact sh_pk_in | exact sh_pk_nin | exact sh_dictG | exact sh_reprG | refine sh_sortSet ?_ | exact sh_dict0 | refine sh_disp1 ?_ ?_ | refine sh_disp ?_ | exact shpr_nil | refine shpr_cons ?_ ?_ ?_ | refine sh_slice ?_ ?_ ?_ | exact sh_noP | refine sh_someP ?_ | refine sh_rev ?_ | refine sh_methE ?_ ?_ ?_ ?_ | exact shmo_none | exact shmo_app | exact shmo_pop | exact shmo_dpop | exact shmo_index | refine sh_cmpB ?_ | refine sh_truE ?_ | refine sh_notB ?_ | refine sh_andB ?_ ?_ | refine sh_orB ?_ ?_ | exact sh_yesB | refine sh_lcE ?_ ?_ ?_ ?_ | refine sh_dcE ?_ ?_ ?_ ?_ ?_ | refine sh_genE ?_ ?_ ?_ ?_ ?_ | exact sh_eatAny _ | exact sh_eatAll _ | exact sh_eatSum _ | exact sh_eatTup _ | refine sh_seqIV ?_ | refine sh_enumIV ?_ | refine sh_rng1 ?_ | refine sh_rng2 ?_ | refine sh_listRg ?_ | exact sh_setV _ | refine sh_unpack ?_ | exact sh_nilV | refine sh_consV ?_ ?_ | refine sh_subV ?_ ?_)
theorem sh_m_quarter_turned : ShC m_quarter_turned := by
  have h_m_picture_of := sh_m_picture_of
  unfold m_quarter_turned b_quarter_turned
  refine sh_runM ?_
  repeat' with_reducible (first | assumption | exact sh_pass | exact sh_break | exact sh_cont | exact sh_retN | refine sh_seqV ?_ ?_ | refine sh_ret ?_ | refine sh_drop ?_ | refine sh_ifV ?_ ?_ ?_ | refine sh_forIV ?_ ?_ ?_ | refine sh_while ?_ ?_ _ | refine sh_asgV ?_ ?_ | refine sh_parV ?_ | refine sh_par3V ?_ | refine sh_augV ?_ | refine sh_delV ?_ ?_ | exact sh_slotE _ | exact sh_valE (fl_int _) | exact sh_valE (fl_bl _) | exact sh_valE (fl_str _) | exact sh_valE fl_non | exact sh_valE fl_near | exact sh_valE fl_side | refine sh_bind2 ?_ ?_ ?_ | exact sh_bin _ | exact sh_cmp _ | exact sh_ixD | refine sh_chain ?_ ?_ ?_ ?_ ?_ | refine sh_negE ?_ | refine sh_notE ?_ | refine sh_andE ?_ ?_ | refine sh_orE ?_ ?_ | refine sh_ifE ?_ ?_ ?_ | refine sh_tupE ?_ | refine sh_lstE ?_ | exact sh_nilA | refine sh_consA ?_ ?_ | refine sh_callE ?_ ?_ | exact sh_lenG | exact sh_tupleG | exact sh_listG | exact sh_absG | exact sh_intG | exact sh_minG | exact sh_maxG | exact sh_sum | exact sh_any | exact sh_all | exact sh_pk_srt | exact sh_pk_in | exact sh_pk_nin | exact sh_dictG | exact sh_reprG | refine sh_sortSet ?_ | exact sh_dict0 | refine sh_disp1 ?_ ?_ | refine sh_disp ?_ | exact shpr_nil | refine shpr_cons ?_ ?_ ?_ | refine sh_slice ?_ ?_ ?_ | exact sh_noP | refine sh_someP ?_ | refine sh_rev ?_ | refine sh_methE ?_ ?_ ?_ ?_ | exact shmo_none | exact shmo_app | exact shmo_pop | exact shmo_dpop | exact shmo_index | refine sh_cmpB ?_ | refine sh_truE ?_ | refine sh_notB ?_ | refine sh_andB ?_ ?_ | refine sh_orB ?_ ?_ | exact sh_yesB | refine sh_lcE ?_ ?_ ?_ ?_ | refine sh_dcE ?_ ?_ ?_ ?_ ?_ | refine sh_genE ?_ ?_ ?_ ?_ ?_ | exact sh_eatAny _ | exact sh_eatAll _ | exact sh_eatSum _ | exact sh_eatTup _ | refine sh_seqIV ?_ | refine sh_enumIV ?_ | refine sh_rng1 ?_ | refine sh_rng2 ?_ | refine sh_listRg ?_ | exact sh_setV _ | refine sh_unpack ?_ | exact sh_nilV | refine sh_consV ?_ ?_ | refine sh_subV ?_ ?_)
theorem sh_m_mirrored : ShC m_mirrored := by
  have h_m_picture_of := sh_m_picture_of
  unfold m_mirrored b_mirrored
  refine sh_runM ?_
  repeat' with_reducible (first | assumption | exact sh_pass | exact sh_break | exact sh_cont | exact sh_retN | refine sh_seqV ?_ ?_ | refine sh_ret ?_ | refine sh_drop ?_ | refine sh_ifV ?_ ?_ ?_ | refine sh_forIV ?_ ?_ ?_ | refine sh_while ?_ ?_ _ | refine sh_asgV ?_ ?_ | refine sh_parV ?_ | refine sh_par3V ?_ | refine sh_augV ?_ | refine sh_delV ?_ ?_ | exact sh_slotE _ | exact sh_valE (fl_int _) | exact sh_valE (fl_bl _) | exact sh_valE (fl_str _) | exact sh_valE fl_non | exact sh_valE fl_near | exact sh_valE fl_side | refine sh_bind2 ?_ ?_ ?_ | exact sh_bin _ | exact sh_cmp _ | exact sh_ixD | refine sh_chain ?_ ?_ ?_ ?_ ?_ | refine sh_negE ?_ | refine sh_notE ?_ | refine sh_andE ?_ ?_ | refine sh_orE ?_ ?_ | refine sh_ifE ?_ ?_ ?_ | refine sh_tupE ?_ | refine sh_lstE ?_ | exact sh_nilA | refine sh_consA ?_ ?_ | refine sh_callE ?_ ?_ | exact sh_lenG | exact sh_tupleG | exact sh_listG | exact sh_absG | exact sh_intG | exact sh_minG | exact sh_maxG | exact sh_sum | exact sh_any | exact sh_all | exact sh_pk_srt | exact sh_pk_in | exact sh_pk_nin | exact sh_dictG | exact sh_reprG | refine sh_sortSet ?_ | exact sh_dict0 | refine sh_disp1 ?_ ?_ | refine sh_disp ?_ | exact shpr_nil | refine shpr_cons ?_ ?_ ?_ | refine sh_slice ?_ ?_ ?_ | exact sh_noP | refine sh_someP ?_ | refine sh_rev ?_ | refine sh_methE ?_ ?_ ?_ ?_ | exact shmo_none | exact shmo_app | exact shmo_pop | exact shmo_dpop | exact shmo_index | refine sh_cmpB ?_ | refine sh_truE ?_ | refine sh_notB ?_ | refine sh_andB ?_ ?_ | refine sh_orB ?_ ?_ | exact sh_yesB | refine sh_lcE ?_ ?_ ?_ ?_ | refine sh_dcE ?_ ?_ ?_ ?_ ?_ | refine sh_genE ?_ ?_ ?_ ?_ ?_ | exact sh_eatAny _ | exact sh_eatAll _ | exact sh_eatSum _ | exact sh_eatTup _ | refine sh_seqIV ?_ | refine sh_enumIV ?_ | refine sh_rng1 ?_ | refine sh_rng2 ?_ | refine sh_listRg ?_ | exact sh_setV _ | refine sh_unpack ?_ | exact sh_nilV | refine sh_consV ?_ ?_ | refine sh_subV ?_ ?_)
theorem sh_m_posed : ShC m_posed := by
  have h_m_quarter_turned := sh_m_quarter_turned
  have h_m_mirrored := sh_m_mirrored
  unfold m_posed b_posed
  refine sh_runM ?_
  repeat' with_reducible (first | assumption | exact sh_pass | exact sh_break | exact sh_cont | exact sh_retN | refine sh_seqV ?_ ?_ | refine sh_ret ?_ | refine sh_drop ?_ | refine sh_ifV ?_ ?_ ?_ | refine sh_forIV ?_ ?_ ?_ | refine sh_while ?_ ?_ _ | refine sh_asgV ?_ ?_ | refine sh_parV ?_ | refine sh_par3V ?_ | refine sh_augV ?_ | refine sh_delV ?_ ?_ | exact sh_slotE _ | exact sh_valE (fl_int _) | exact sh_valE (fl_bl _) | exact sh_valE (fl_str _) | exact sh_valE fl_non | exact sh_valE fl_near | exact sh_valE fl_side | refine sh_bind2 ?_ ?_ ?_ | exact sh_bin _ | exact sh_cmp _ | exact sh_ixD | refine sh_chain ?_ ?_ ?_ ?_ ?_ | refine sh_negE ?_ | refine sh_notE ?_ | refine sh_andE ?_ ?_ | refine sh_orE ?_ ?_ | refine sh_ifE ?_ ?_ ?_ | refine sh_tupE ?_ | refine sh_lstE ?_ | exact sh_nilA | refine sh_consA ?_ ?_ | refine sh_callE ?_ ?_ | exact sh_lenG | exact sh_tupleG | exact sh_listG | exact sh_absG | exact sh_intG | exact sh_minG | exact sh_maxG | exact sh_sum | exact sh_any | exact sh_all | exact sh_pk_srt | exact sh_pk_in | exact sh_pk_nin | exact sh_dictG | exact sh_reprG | refine sh_sortSet ?_ | exact sh_dict0 | refine sh_disp1 ?_ ?_ | refine sh_disp ?_ | exact shpr_nil | refine shpr_cons ?_ ?_ ?_ | refine sh_slice ?_ ?_ ?_ | exact sh_noP | refine sh_someP ?_ | refine sh_rev ?_ | refine sh_methE ?_ ?_ ?_ ?_ | exact shmo_none | exact shmo_app | exact shmo_pop | exact shmo_dpop | exact shmo_index | refine sh_cmpB ?_ | refine sh_truE ?_ | refine sh_notB ?_ | refine sh_andB ?_ ?_ | refine sh_orB ?_ ?_ | exact sh_yesB | refine sh_lcE ?_ ?_ ?_ ?_ | refine sh_dcE ?_ ?_ ?_ ?_ ?_ | refine sh_genE ?_ ?_ ?_ ?_ ?_ | exact sh_eatAny _ | exact sh_eatAll _ | exact sh_eatSum _ | exact sh_eatTup _ | refine sh_seqIV ?_ | refine sh_enumIV ?_ | refine sh_rng1 ?_ | refine sh_rng2 ?_ | refine sh_listRg ?_ | exact sh_setV _ | refine sh_unpack ?_ | exact sh_nilV | refine sh_consV ?_ ?_ | refine sh_subV ?_ ?_)
theorem sh_m_lot_from : ShC m_lot_from := by
  unfold m_lot_from b_lot_from
  refine sh_runM ?_
  repeat' with_reducible (first | assumption | exact sh_pass | exact sh_break | exact sh_cont | exact sh_retN | refine sh_seqV ?_ ?_ | refine sh_ret ?_ | refine sh_drop ?_ | refine sh_ifV ?_ ?_ ?_ | refine sh_forIV ?_ ?_ ?_ | refine sh_while ?_ ?_ _ | refine sh_asgV ?_ ?_ | refine sh_parV ?_ | refine sh_par3V ?_ | refine sh_augV ?_ | refine sh_delV ?_ ?_ | exact sh_slotE _ | exact sh_valE (fl_int _) | exact sh_valE (fl_bl _) | exact sh_valE (fl_str _) | exact sh_valE fl_non | exact sh_valE fl_near | exact sh_valE fl_side | refine sh_bind2 ?_ ?_ ?_ | exact sh_bin _ | exact sh_cmp _ | exact sh_ixD | refine sh_chain ?_ ?_ ?_ ?_ ?_ | refine sh_negE ?_ | refine sh_notE ?_ | refine sh_andE ?_ ?_ | refine sh_orE ?_ ?_ | refine sh_ifE ?_ ?_ ?_ | refine sh_tupE ?_ | refine sh_lstE ?_ | exact sh_nilA | refine sh_consA ?_ ?_ | refine sh_callE ?_ ?_ | exact sh_lenG | exact sh_tupleG | exact sh_listG | exact sh_absG | exact sh_intG | exact sh_minG | exact sh_maxG | exact sh_sum | exact sh_any | exact sh_all | exact sh_pk_srt | exact sh_pk_in | exact sh_pk_nin | exact sh_dictG | exact sh_reprG | refine sh_sortSet ?_ | exact sh_dict0 | refine sh_disp1 ?_ ?_ | refine sh_disp ?_ | exact shpr_nil | refine shpr_cons ?_ ?_ ?_ | refine sh_slice ?_ ?_ ?_ | exact sh_noP | refine sh_someP ?_ | refine sh_rev ?_ | refine sh_methE ?_ ?_ ?_ ?_ | exact shmo_none | exact shmo_app | exact shmo_pop | exact shmo_dpop | exact shmo_index | refine sh_cmpB ?_ | refine sh_truE ?_ | refine sh_notB ?_ | refine sh_andB ?_ ?_ | refine sh_orB ?_ ?_ | exact sh_yesB | refine sh_lcE ?_ ?_ ?_ ?_ | refine sh_dcE ?_ ?_ ?_ ?_ ?_ | refine sh_genE ?_ ?_ ?_ ?_ ?_ | exact sh_eatAny _ | exact sh_eatAll _ | exact sh_eatSum _ | exact sh_eatTup _ | refine sh_seqIV ?_ | refine sh_enumIV ?_ | refine sh_rng1 ?_ | refine sh_rng2 ?_ | refine sh_listRg ?_ | exact sh_setV _ | refine sh_unpack ?_ | exact sh_nilV | refine sh_consV ?_ ?_ | refine sh_subV ?_ ?_)
theorem sh_m_lots_in : ShC m_lots_in := by
  have h_m_cell_table := sh_m_cell_table
  have h_m_lot_from := sh_m_lot_from
  unfold m_lots_in b_lots_in
  refine sh_runM ?_
  repeat' with_reducible (first | assumption | exact sh_pass | exact sh_break | exact sh_cont | exact sh_retN | refine sh_seqV ?_ ?_ | refine sh_ret ?_ | refine sh_drop ?_ | refine sh_ifV ?_ ?_ ?_ | refine sh_forIV ?_ ?_ ?_ | refine sh_while ?_ ?_ _ | refine sh_asgV ?_ ?_ | refine sh_parV ?_ | refine sh_par3V ?_ | refine sh_augV ?_ | refine sh_delV ?_ ?_ | exact sh_slotE _ | exact sh_valE (fl_int _) | exact sh_valE (fl_bl _) | exact sh_valE (fl_str _) | exact sh_valE fl_non | exact sh_valE fl_near | exact sh_valE fl_side | refine sh_bind2 ?_ ?_ ?_ | exact sh_bin _ | exact sh_cmp _ | exact sh_ixD | refine sh_chain ?_ ?_ ?_ ?_ ?_ | refine sh_negE ?_ | refine sh_notE ?_ | refine sh_andE ?_ ?_ | refine sh_orE ?_ ?_ | refine sh_ifE ?_ ?_ ?_ | refine sh_tupE ?_ | refine sh_lstE ?_ | exact sh_nilA | refine sh_consA ?_ ?_ | refine sh_callE ?_ ?_ | exact sh_lenG | exact sh_tupleG | exact sh_listG | exact sh_absG | exact sh_intG | exact sh_minG | exact sh_maxG | exact sh_sum | exact sh_any | exact sh_all | exact sh_pk_srt | exact sh_pk_in | exact sh_pk_nin | exact sh_dictG | exact sh_reprG | refine sh_sortSet ?_ | exact sh_dict0 | refine sh_disp1 ?_ ?_ | refine sh_disp ?_ | exact shpr_nil | refine shpr_cons ?_ ?_ ?_ | refine sh_slice ?_ ?_ ?_ | exact sh_noP | refine sh_someP ?_ | refine sh_rev ?_ | refine sh_methE ?_ ?_ ?_ ?_ | exact shmo_none | exact shmo_app | exact shmo_pop | exact shmo_dpop | exact shmo_index | refine sh_cmpB ?_ | refine sh_truE ?_ | refine sh_notB ?_ | refine sh_andB ?_ ?_ | refine sh_orB ?_ ?_ | exact sh_yesB | refine sh_lcE ?_ ?_ ?_ ?_ | refine sh_dcE ?_ ?_ ?_ ?_ ?_ | refine sh_genE ?_ ?_ ?_ ?_ ?_ | exact sh_eatAny _ | exact sh_eatAll _ | exact sh_eatSum _ | exact sh_eatTup _ | refine sh_seqIV ?_ | refine sh_enumIV ?_ | refine sh_rng1 ?_ | refine sh_rng2 ?_ | refine sh_listRg ?_ | exact sh_setV _ | refine sh_unpack ?_ | exact sh_nilV | refine sh_consV ?_ ?_ | refine sh_subV ?_ ?_)
theorem sh_m_code_in : ShC m_code_in := by
  unfold m_code_in b_code_in
  refine sh_runM ?_
  repeat' with_reducible (first | assumption | exact sh_pass | exact sh_break | exact sh_cont | exact sh_retN | refine sh_seqV ?_ ?_ | refine sh_ret ?_ | refine sh_drop ?_ | refine sh_ifV ?_ ?_ ?_ | refine sh_forIV ?_ ?_ ?_ | refine sh_while ?_ ?_ _ | refine sh_asgV ?_ ?_ | refine sh_parV ?_ | refine sh_par3V ?_ | refine sh_augV ?_ | refine sh_delV ?_ ?_ | exact sh_slotE _ | exact sh_valE (fl_int _) | exact sh_valE (fl_bl _) | exact sh_valE (fl_str _) | exact sh_valE fl_non | exact sh_valE fl_near | exact sh_valE fl_side | refine sh_bind2 ?_ ?_ ?_ | exact sh_bin _ | exact sh_cmp _ | exact sh_ixD | refine sh_chain ?_ ?_ ?_ ?_ ?_ | refine sh_negE ?_ | refine sh_notE ?_ | refine sh_andE ?_ ?_ | refine sh_orE ?_ ?_ | refine sh_ifE ?_ ?_ ?_ | refine sh_tupE ?_ | refine sh_lstE ?_ | exact sh_nilA | refine sh_consA ?_ ?_ | refine sh_callE ?_ ?_ | exact sh_lenG | exact sh_tupleG | exact sh_listG | exact sh_absG | exact sh_intG | exact sh_minG | exact sh_maxG | exact sh_sum | exact sh_any | exact sh_all | exact sh_pk_srt | exact sh_pk_in | exact sh_pk_nin | exact sh_dictG | exact sh_reprG | refine sh_sortSet ?_ | exact sh_dict0 | refine sh_disp1 ?_ ?_ | refine sh_disp ?_ | exact shpr_nil | refine shpr_cons ?_ ?_ ?_ | refine sh_slice ?_ ?_ ?_ | exact sh_noP | refine sh_someP ?_ | refine sh_rev ?_ | refine sh_methE ?_ ?_ ?_ ?_ | exact shmo_none | exact shmo_app | exact shmo_pop | exact shmo_dpop | exact shmo_index | refine sh_cmpB ?_ | refine sh_truE ?_ | refine sh_notB ?_ | refine sh_andB ?_ ?_ | refine sh_orB ?_ ?_ | exact sh_yesB | refine sh_lcE ?_ ?_ ?_ ?_ | refine sh_dcE ?_ ?_ ?_ ?_ ?_ | refine sh_genE ?_ ?_ ?_ ?_ ?_ | exact sh_eatAny _ | exact sh_eatAll _ | exact sh_eatSum _ | exact sh_eatTup _ | refine sh_seqIV ?_ | refine sh_enumIV ?_ | refine sh_rng1 ?_ | refine sh_rng2 ?_ | refine sh_listRg ?_ | exact sh_setV _ | refine sh_unpack ?_ | exact sh_nilV | refine sh_consV ?_ ?_ | refine sh_subV ?_ ?_)
theorem sh_m_code_at : ShC m_code_at := by
  have h_m_code_in := sh_m_code_in
  have h_m_cell_table := sh_m_cell_table
  unfold m_code_at b_code_at
  refine sh_runM ?_
  repeat' with_reducible (first | assumption | exact sh_pass | exact sh_break | exact sh_cont | exact sh_retN | refine sh_seqV ?_ ?_ | refine sh_ret ?_ | refine sh_drop ?_ | refine sh_ifV ?_ ?_ ?_ | refine sh_forIV ?_ ?_ ?_ | refine sh_while ?_ ?_ _ | refine sh_asgV ?_ ?_ | refine sh_parV ?_ | refine sh_par3V ?_ | refine sh_augV ?_ | refine sh_delV ?_ ?_ | exact sh_slotE _ | exact sh_valE (fl_int _) | exact sh_valE (fl_bl _) | exact sh_valE (fl_str _) | exact sh_valE fl_non | exact sh_valE fl_near | exact sh_valE fl_side | refine sh_bind2 ?_ ?_ ?_ | exact sh_bin _ | exact sh_cmp _ | exact sh_ixD | refine sh_chain ?_ ?_ ?_ ?_ ?_ | refine sh_negE ?_ | refine sh_notE ?_ | refine sh_andE ?_ ?_ | refine sh_orE ?_ ?_ | refine sh_ifE ?_ ?_ ?_ | refine sh_tupE ?_ | refine sh_lstE ?_ | exact sh_nilA | refine sh_consA ?_ ?_ | refine sh_callE ?_ ?_ | exact sh_lenG | exact sh_tupleG | exact sh_listG | exact sh_absG | exact sh_intG | exact sh_minG | exact sh_maxG | exact sh_sum | exact sh_any | exact sh_all | exact sh_pk_srt | exact sh_pk_in | exact sh_pk_nin | exact sh_dictG | exact sh_reprG | refine sh_sortSet ?_ | exact sh_dict0 | refine sh_disp1 ?_ ?_ | refine sh_disp ?_ | exact shpr_nil | refine shpr_cons ?_ ?_ ?_ | refine sh_slice ?_ ?_ ?_ | exact sh_noP | refine sh_someP ?_ | refine sh_rev ?_ | refine sh_methE ?_ ?_ ?_ ?_ | exact shmo_none | exact shmo_app | exact shmo_pop | exact shmo_dpop | exact shmo_index | refine sh_cmpB ?_ | refine sh_truE ?_ | refine sh_notB ?_ | refine sh_andB ?_ ?_ | refine sh_orB ?_ ?_ | exact sh_yesB | refine sh_lcE ?_ ?_ ?_ ?_ | refine sh_dcE ?_ ?_ ?_ ?_ ?_ | refine sh_genE ?_ ?_ ?_ ?_ ?_ | exact sh_eatAny _ | exact sh_eatAll _ | exact sh_eatSum _ | exact sh_eatTup _ | refine sh_seqIV ?_ | refine sh_enumIV ?_ | refine sh_rng1 ?_ | refine sh_rng2 ?_ | refine sh_listRg ?_ | exact sh_setV _ | refine sh_unpack ?_ | exact sh_nilV | refine sh_consV ?_ ?_ | refine sh_subV ?_ ?_)
theorem sh_m_code_numbers : ShC m_code_numbers := by
  unfold m_code_numbers b_code_numbers
  refine sh_runM ?_
  repeat' with_reducible (first | assumption | exact sh_pass | exact sh_break | exact sh_cont | exact sh_retN | refine sh_seqV ?_ ?_ | refine sh_ret ?_ | refine sh_drop ?_ | refine sh_ifV ?_ ?_ ?_ | refine sh_forIV ?_ ?_ ?_ | refine sh_while ?_ ?_ _ | refine sh_asgV ?_ ?_ | refine sh_parV ?_ | refine sh_par3V ?_ | refine sh_augV ?_ | refine sh_delV ?_ ?_ | exact sh_slotE _ | exact sh_valE (fl_int _) | exact sh_valE (fl_bl _) | exact sh_valE (fl_str _) | exact sh_valE fl_non | exact sh_valE fl_near | exact sh_valE fl_side | refine sh_bind2 ?_ ?_ ?_ | exact sh_bin _ | exact sh_cmp _ | exact sh_ixD | refine sh_chain ?_ ?_ ?_ ?_ ?_ | refine sh_negE ?_ | refine sh_notE ?_ | refine sh_andE ?_ ?_ | refine sh_orE ?_ ?_ | refine sh_ifE ?_ ?_ ?_ | refine sh_tupE ?_ | refine sh_lstE ?_ | exact sh_nilA | refine sh_consA ?_ ?_ | refine sh_callE ?_ ?_ | exact sh_lenG | exact sh_tupleG | exact sh_listG | exact sh_absG | exact sh_intG | exact sh_minG | exact sh_maxG | exact sh_sum | exact sh_any | exact sh_all | exact sh_pk_srt | exact sh_pk_in | exact sh_pk_nin | exact sh_dictG | exact sh_reprG | refine sh_sortSet ?_ | exact sh_dict0 | refine sh_disp1 ?_ ?_ | refine sh_disp ?_ | exact shpr_nil | refine shpr_cons ?_ ?_ ?_ | refine sh_slice ?_ ?_ ?_ | exact sh_noP | refine sh_someP ?_ | refine sh_rev ?_ | refine sh_methE ?_ ?_ ?_ ?_ | exact shmo_none | exact shmo_app | exact shmo_pop | exact shmo_dpop | exact shmo_index | refine sh_cmpB ?_ | refine sh_truE ?_ | refine sh_notB ?_ | refine sh_andB ?_ ?_ | refine sh_orB ?_ ?_ | exact sh_yesB | refine sh_lcE ?_ ?_ ?_ ?_ | refine sh_dcE ?_ ?_ ?_ ?_ ?_ | refine sh_genE ?_ ?_ ?_ ?_ ?_ | exact sh_eatAny _ | exact sh_eatAll _ | exact sh_eatSum _ | exact sh_eatTup _ | refine sh_seqIV ?_ | refine sh_enumIV ?_ | refine sh_rng1 ?_ | refine sh_rng2 ?_ | refine sh_listRg ?_ | exact sh_setV _ | refine sh_unpack ?_ | exact sh_nilV | refine sh_consV ?_ ?_ | refine sh_subV ?_ ?_)
theorem sh_m_code_with : ShC m_code_with := by
  unfold m_code_with b_code_with
  refine sh_runM ?_
  repeat' with_reducible (first | assumption | exact sh_pass | exact sh_break | exact sh_cont | exact sh_retN | refine sh_seqV ?_ ?_ | refine sh_ret ?_ | refine sh_drop ?_ | refine sh_ifV ?_ ?_ ?_ | refine sh_forIV ?_ ?_ ?_ | refine sh_while ?_ ?_ _ | refine sh_asgV ?_ ?_ | refine sh_parV ?_ | refine sh_par3V ?_ | refine sh_augV ?_ | refine sh_delV ?_ ?_ | exact sh_slotE _ | exact sh_valE (fl_int _) | exact sh_valE (fl_bl _) | exact sh_valE (fl_str _) | exact sh_valE fl_non | exact sh_valE fl_near | exact sh_valE fl_side | refine sh_bind2 ?_ ?_ ?_ | exact sh_bin _ | exact sh_cmp _ | exact sh_ixD | refine sh_chain ?_ ?_ ?_ ?_ ?_ | refine sh_negE ?_ | refine sh_notE ?_ | refine sh_andE ?_ ?_ | refine sh_orE ?_ ?_ | refine sh_ifE ?_ ?_ ?_ | refine sh_tupE ?_ | refine sh_lstE ?_ | exact sh_nilA | refine sh_consA ?_ ?_ | refine sh_callE ?_ ?_ | exact sh_lenG | exact sh_tupleG | exact sh_listG | exact sh_absG | exact sh_intG | exact sh_minG | exact sh_maxG | exact sh_sum | exact sh_any | exact sh_all | exact sh_pk_srt | exact sh_pk_in | exact sh_pk_nin | exact sh_dictG | exact sh_reprG | refine sh_sortSet ?_ | exact sh_dict0 | refine sh_disp1 ?_ ?_ | refine sh_disp ?_ | exact shpr_nil | refine shpr_cons ?_ ?_ ?_ | refine sh_slice ?_ ?_ ?_ | exact sh_noP | refine sh_someP ?_ | refine sh_rev ?_ | refine sh_methE ?_ ?_ ?_ ?_ | exact shmo_none | exact shmo_app | exact shmo_pop | exact shmo_dpop | exact shmo_index | refine sh_cmpB ?_ | refine sh_truE ?_ | refine sh_notB ?_ | refine sh_andB ?_ ?_ | refine sh_orB ?_ ?_ | exact sh_yesB | refine sh_lcE ?_ ?_ ?_ ?_ | refine sh_dcE ?_ ?_ ?_ ?_ ?_ | refine sh_genE ?_ ?_ ?_ ?_ ?_ | exact sh_eatAny _ | exact sh_eatAll _ | exact sh_eatSum _ | exact sh_eatTup _ | refine sh_seqIV ?_ | refine sh_enumIV ?_ | refine sh_rng1 ?_ | refine sh_rng2 ?_ | refine sh_listRg ?_ | exact sh_setV _ | refine sh_unpack ?_ | exact sh_nilV | refine sh_consV ?_ ?_ | refine sh_subV ?_ ?_)
theorem sh_m_cells_of_code : ShC m_cells_of_code := by
  have h_m_near_cells := sh_m_near_cells
  have h_m_picture_of := sh_m_picture_of
  have h_m_code_numbers := sh_m_code_numbers
  unfold m_cells_of_code b_cells_of_code
  refine sh_runM ?_
  repeat' with_reducible (first | assumption | exact sh_pass | exact sh_break | exact sh_cont | exact sh_retN | refine sh_seqV ?_ ?_ | refine sh_ret ?_ | refine sh_drop ?_ | refine sh_ifV ?_ ?_ ?_ | refine sh_forIV ?_ ?_ ?_ | refine sh_while ?_ ?_ _ | refine sh_asgV ?_ ?_ | refine sh_parV ?_ | refine sh_par3V ?_ | refine sh_augV ?_ | refine sh_delV ?_ ?_ | exact sh_slotE _ | exact sh_valE (fl_int _) | exact sh_valE (fl_bl _) | exact sh_valE (fl_str _) | exact sh_valE fl_non | exact sh_valE fl_near | exact sh_valE fl_side | refine sh_bind2 ?_ ?_ ?_ | exact sh_bin _ | exact sh_cmp _ | exact sh_ixD | refine sh_chain ?_ ?_ ?_ ?_ ?_ | refine sh_negE ?_ | refine sh_notE ?_ | refine sh_andE ?_ ?_ | refine sh_orE ?_ ?_ | refine sh_ifE ?_ ?_ ?_ | refine sh_tupE ?_ | refine sh_lstE ?_ | exact sh_nilA | refine sh_consA ?_ ?_ | refine sh_callE ?_ ?_ | exact sh_lenG | exact sh_tupleG | exact sh_listG | exact sh_absG | exact sh_intG | exact sh_minG | exact sh_maxG | exact sh_sum | exact sh_any | exact sh_all | exact sh_pk_srt | exact sh_pk_in | exact sh_pk_nin | exact sh_dictG | exact sh_reprG | refine sh_sortSet ?_ | exact sh_dict0 | refine sh_disp1 ?_ ?_ | refine sh_disp ?_ | exact shpr_nil | refine shpr_cons ?_ ?_ ?_ | refine sh_slice ?_ ?_ ?_ | exact sh_noP | refine sh_someP ?_ | refine sh_rev ?_ | refine sh_methE ?_ ?_ ?_ ?_ | exact shmo_none | exact shmo_app | exact shmo_pop | exact shmo_dpop | exact shmo_index | refine sh_cmpB ?_ | refine sh_truE ?_ | refine sh_notB ?_ | refine sh_andB ?_ ?_ | refine sh_orB ?_ ?_ | exact sh_yesB | refine sh_lcE ?_ ?_ ?_ ?_ | refine sh_dcE ?_ ?_ ?_ ?_ ?_ | refine sh_genE ?_ ?_ ?_ ?_ ?_ | exact sh_eatAny _ | exact sh_eatAll _ | exact sh_eatSum _ | exact sh_eatTup _ | refine sh_seqIV ?_ | refine sh_enumIV ?_ | refine sh_rng1 ?_ | refine sh_rng2 ?_ | refine sh_listRg ?_ | exact sh_setV _ | refine sh_unpack ?_ | exact sh_nilV | refine sh_consV ?_ ?_ | refine sh_subV ?_ ?_)
theorem sh_m_turned_code : ShC m_turned_code := by
  have h_m_code_with := sh_m_code_with
  have h_m_code_numbers := sh_m_code_numbers
  unfold m_turned_code b_turned_code
  refine sh_runM ?_
  repeat' with_reducible (first | assumption | exact sh_pass | exact sh_break | exact sh_cont | exact sh_retN | refine sh_seqV ?_ ?_ | refine sh_ret ?_ | refine sh_drop ?_ | refine sh_ifV ?_ ?_ ?_ | refine sh_forIV ?_ ?_ ?_ | refine sh_while ?_ ?_ _ | refine sh_asgV ?_ ?_ | refine sh_parV ?_ | refine sh_par3V ?_ | refine sh_augV ?_ | refine sh_delV ?_ ?_ | exact sh_slotE _ | exact sh_valE (fl_int _) | exact sh_valE (fl_bl _) | exact sh_valE (fl_str _) | exact sh_valE fl_non | exact sh_valE fl_near | exact sh_valE fl_side | refine sh_bind2 ?_ ?_ ?_ | exact sh_bin _ | exact sh_cmp _ | exact sh_ixD | refine sh_chain ?_ ?_ ?_ ?_ ?_ | refine sh_negE ?_ | refine sh_notE ?_ | refine sh_andE ?_ ?_ | refine sh_orE ?_ ?_ | refine sh_ifE ?_ ?_ ?_ | refine sh_tupE ?_ | refine sh_lstE ?_ | exact sh_nilA | refine sh_consA ?_ ?_ | refine sh_callE ?_ ?_ | exact sh_lenG | exact sh_tupleG | exact sh_listG | exact sh_absG | exact sh_intG | exact sh_minG | exact sh_maxG | exact sh_sum | exact sh_any | exact sh_all | exact sh_pk_srt | exact sh_pk_in | exact sh_pk_nin | exact sh_dictG | exact sh_reprG | refine sh_sortSet ?_ | exact sh_dict0 | refine sh_disp1 ?_ ?_ | refine sh_disp ?_ | exact shpr_nil | refine shpr_cons ?_ ?_ ?_ | refine sh_slice ?_ ?_ ?_ | exact sh_noP | refine sh_someP ?_ | refine sh_rev ?_ | refine sh_methE ?_ ?_ ?_ ?_ | exact shmo_none | exact shmo_app | exact shmo_pop | exact shmo_dpop | exact shmo_index | refine sh_cmpB ?_ | refine sh_truE ?_ | refine sh_notB ?_ | refine sh_andB ?_ ?_ | refine sh_orB ?_ ?_ | exact sh_yesB | refine sh_lcE ?_ ?_ ?_ ?_ | refine sh_dcE ?_ ?_ ?_ ?_ ?_ | refine sh_genE ?_ ?_ ?_ ?_ ?_ | exact sh_eatAny _ | exact sh_eatAll _ | exact sh_eatSum _ | exact sh_eatTup _ | refine sh_seqIV ?_ | refine sh_enumIV ?_ | refine sh_rng1 ?_ | refine sh_rng2 ?_ | refine sh_listRg ?_ | exact sh_setV _ | refine sh_unpack ?_ | exact sh_nilV | refine sh_consV ?_ ?_ | refine sh_subV ?_ ?_)
theorem sh_m_number_lots : ShC m_number_lots := by
  have h_m_picture_of := sh_m_picture_of
  have h_m_lots_in := sh_m_lots_in
  unfold m_number_lots b_number_lots
  refine sh_runM ?_
  repeat' with_reducible (first | assumption | exact sh_pass | exact sh_break | exact sh_cont | exact sh_retN | refine sh_seqV ?_ ?_ | refine sh_ret ?_ | refine sh_drop ?_ | refine sh_ifV ?_ ?_ ?_ | refine sh_forIV ?_ ?_ ?_ | refine sh_while ?_ ?_ _ | refine sh_asgV ?_ ?_ | refine sh_parV ?_ | refine sh_par3V ?_ | refine sh_augV ?_ | refine sh_delV ?_ ?_ | exact sh_slotE _ | exact sh_valE (fl_int _) | exact sh_valE (fl_bl _) | exact sh_valE (fl_str _) | exact sh_valE fl_non | exact sh_valE fl_near | exact sh_valE fl_side | refine sh_bind2 ?_ ?_ ?_ | exact sh_bin _ | exact sh_cmp _ | exact sh_ixD | refine sh_chain ?_ ?_ ?_ ?_ ?_ | refine sh_negE ?_ | refine sh_notE ?_ | refine sh_andE ?_ ?_ | refine sh_orE ?_ ?_ | refine sh_ifE ?_ ?_ ?_ | refine sh_tupE ?_ | refine sh_lstE ?_ | exact sh_nilA | refine sh_consA ?_ ?_ | refine sh_callE ?_ ?_ | exact sh_lenG | exact sh_tupleG | exact sh_listG | exact sh_absG | exact sh_intG | exact sh_minG | exact sh_maxG | exact sh_sum | exact sh_any | exact sh_all | exact sh_pk_srt | exact sh_pk_in | exact sh_pk_nin | exact sh_dictG | exact sh_reprG | refine sh_sortSet ?_ | exact sh_dict0 | refine sh_disp1 ?_ ?_ | refine sh_disp ?_ | exact shpr_nil | refine shpr_cons ?_ ?_ ?_ | refine sh_slice ?_ ?_ ?_ | exact sh_noP | refine sh_someP ?_ | refine sh_rev ?_ | refine sh_methE ?_ ?_ ?_ ?_ | exact shmo_none | exact shmo_app | exact shmo_pop | exact shmo_dpop | exact shmo_index | refine sh_cmpB ?_ | refine sh_truE ?_ | refine sh_notB ?_ | refine sh_andB ?_ ?_ | refine sh_orB ?_ ?_ | exact sh_yesB | refine sh_lcE ?_ ?_ ?_ ?_ | refine sh_dcE ?_ ?_ ?_ ?_ ?_ | refine sh_genE ?_ ?_ ?_ ?_ ?_ | exact sh_eatAny _ | exact sh_eatAll _ | exact sh_eatSum _ | exact sh_eatTup _ | refine sh_seqIV ?_ | refine sh_enumIV ?_ | refine sh_rng1 ?_ | refine sh_rng2 ?_ | refine sh_listRg ?_ | exact sh_setV _ | refine sh_unpack ?_ | exact sh_nilV | refine sh_consV ?_ ?_ | refine sh_subV ?_ ?_)
theorem sh_m_code_pieces : ShC m_code_pieces := by
  have h_m_number_lots := sh_m_number_lots
  have h_m_code_numbers := sh_m_code_numbers
  unfold m_code_pieces b_code_pieces
  refine sh_runM ?_
  repeat' with_reducible (first | assumption | exact sh_pass | exact sh_break | exact sh_cont | exact sh_retN | refine sh_seqV ?_ ?_ | refine sh_ret ?_ | refine sh_drop ?_ | refine sh_ifV ?_ ?_ ?_ | refine sh_forIV ?_ ?_ ?_ | refine sh_while ?_ ?_ _ | refine sh_asgV ?_ ?_ | refine sh_parV ?_ | refine sh_par3V ?_ | refine sh_augV ?_ | refine sh_delV ?_ ?_ | exact sh_slotE _ | exact sh_valE (fl_int _) | exact sh_valE (fl_bl _) | exact sh_valE (fl_str _) | exact sh_valE fl_non | exact sh_valE fl_near | exact sh_valE fl_side | refine sh_bind2 ?_ ?_ ?_ | exact sh_bin _ | exact sh_cmp _ | exact sh_ixD | refine sh_chain ?_ ?_ ?_ ?_ ?_ | refine sh_negE ?_ | refine sh_notE ?_ | refine sh_andE ?_ ?_ | refine sh_orE ?_ ?_ | refine sh_ifE ?_ ?_ ?_ | refine sh_tupE ?_ | refine sh_lstE ?_ | exact sh_nilA | refine sh_consA ?_ ?_ | refine sh_callE ?_ ?_ | exact sh_lenG | exact sh_tupleG | exact sh_listG | exact sh_absG | exact sh_intG | exact sh_minG | exact sh_maxG | exact sh_sum | exact sh_any | exact sh_all | exact sh_pk_srt | exact sh_pk_in | exact sh_pk_nin | exact sh_dictG | exact sh_reprG | refine sh_sortSet ?_ | exact sh_dict0 | refine sh_disp1 ?_ ?_ | refine sh_disp ?_ | exact shpr_nil | refine shpr_cons ?_ ?_ ?_ | refine sh_slice ?_ ?_ ?_ | exact sh_noP | refine sh_someP ?_ | refine sh_rev ?_ | refine sh_methE ?_ ?_ ?_ ?_ | exact shmo_none | exact shmo_app | exact shmo_pop | exact shmo_dpop | exact shmo_index | refine sh_cmpB ?_ | refine sh_truE ?_ | refine sh_notB ?_ | refine sh_andB ?_ ?_ | refine sh_orB ?_ ?_ | exact sh_yesB | refine sh_lcE ?_ ?_ ?_ ?_ | refine sh_dcE ?_ ?_ ?_ ?_ ?_ | refine sh_genE ?_ ?_ ?_ ?_ ?_ | exact sh_eatAny _ | exact sh_eatAll _ | exact sh_eatSum _ | exact sh_eatTup _ | refine sh_seqIV ?_ | refine sh_enumIV ?_ | refine sh_rng1 ?_ | refine sh_rng2 ?_ | refine sh_listRg ?_ | exact sh_setV _ | refine sh_unpack ?_ | exact sh_nilV | refine sh_consV ?_ ?_ | refine sh_subV ?_ ?_)
theorem sh_m_code_rooms : ShC m_code_rooms := by
  have h_m_number_lots := sh_m_number_lots
  have h_m_code_numbers := sh_m_code_numbers
  unfold m_code_rooms b_code_rooms
  refine sh_runM ?_
  repeat' with_reducible (first | assumption | exact sh_pass | exact sh_break | exact sh_cont | exact sh_retN | refine sh_seqV ?_ ?_ | refine sh_ret ?_ | refine sh_drop ?_ | refine sh_ifV ?_ ?_ ?_ | refine sh_forIV ?_ ?_ ?_ | refine sh_while ?_ ?_ _ | refine sh_asgV ?_ ?_ | refine sh_parV ?_ | refine sh_par3V ?_ | refine sh_augV ?_ | refine sh_delV ?_ ?_ | exact sh_slotE _ | exact sh_valE (fl_int _) | exact sh_valE (fl_bl _) | exact sh_valE (fl_str _) | exact sh_valE fl_non | exact sh_valE fl_near | exact sh_valE fl_side | refine sh_bind2 ?_ ?_ ?_ | exact sh_bin _ | exact sh_cmp _ | exact sh_ixD | refine sh_chain ?_ ?_ ?_ ?_ ?_ | refine sh_negE ?_ | refine sh_notE ?_ | refine sh_andE ?_ ?_ | refine sh_orE ?_ ?_ | refine sh_ifE ?_ ?_ ?_ | refine sh_tupE ?_ | refine sh_lstE ?_ | exact sh_nilA | refine sh_consA ?_ ?_ | refine sh_callE ?_ ?_ | exact sh_lenG | exact sh_tupleG | exact sh_listG | exact sh_absG | exact sh_intG | exact sh_minG | exact sh_maxG | exact sh_sum | exact sh_any | exact sh_all | exact sh_pk_srt | exact sh_pk_in | exact sh_pk_nin | exact sh_dictG | exact sh_reprG | refine sh_sortSet ?_ | exact sh_dict0 | refine sh_disp1 ?_ ?_ | refine sh_disp ?_ | exact shpr_nil | refine shpr_cons ?_ ?_ ?_ | refine sh_slice ?_ ?_ ?_ | exact sh_noP | refine sh_someP ?_ | refine sh_rev ?_ | refine sh_methE ?_ ?_ ?_ ?_ | exact shmo_none | exact shmo_app | exact shmo_pop | exact shmo_dpop | exact shmo_index | refine sh_cmpB ?_ | refine sh_truE ?_ | refine sh_notB ?_ | refine sh_andB ?_ ?_ | refine sh_orB ?_ ?_ | exact sh_yesB | refine sh_lcE ?_ ?_ ?_ ?_ | refine sh_dcE ?_ ?_ ?_ ?_ ?_ | refine sh_genE ?_ ?_ ?_ ?_ ?_ | exact sh_eatAny _ | exact sh_eatAll _ | exact sh_eatSum _ | exact sh_eatTup _ | refine sh_seqIV ?_ | refine sh_enumIV ?_ | refine sh_rng1 ?_ | refine sh_rng2 ?_ | refine sh_listRg ?_ | exact sh_setV _ | refine sh_unpack ?_ | exact sh_nilV | refine sh_consV ?_ ?_ | refine sh_subV ?_ ?_)
theorem sh_m_is_simple_code : ShC m_is_simple_code := by
  unfold m_is_simple_code b_is_simple_code
  refine sh_runM ?_
  repeat' with_reducible (first | assumption | exact sh_pass | exact sh_break | exact sh_cont | exact sh_retN | refine sh_seqV ?_ ?_ | refine sh_ret ?_ | refine sh_drop ?_ | refine sh_ifV ?_ ?_ ?_ | refine sh_forIV ?_ ?_ ?_ | refine sh_while ?_ ?_ _ | refine sh_asgV ?_ ?_ | refine sh_parV ?_ | refine sh_par3V ?_ | refine sh_augV ?_ | refine sh_delV ?_ ?_ | exact sh_slotE _ | exact sh_valE (fl_int _) | exact sh_valE (fl_bl _) | exact sh_valE (fl_str _) | exact sh_valE fl_non | exact sh_valE fl_near | exact sh_valE fl_side | refine sh_bind2 ?_ ?_ ?_ | exact sh_bin _ | exact sh_cmp _ | exact sh_ixD | refine sh_chain ?_ ?_ ?_ ?_ ?_ | refine sh_negE ?_ | refine sh_notE ?_ | refine sh_andE ?_ ?_ | refine sh_orE ?_ ?_ | refine sh_ifE ?_ ?_ ?_ | refine sh_tupE ?_ | refine sh_lstE ?_ | exact sh_nilA | refine sh_consA ?_ ?_ | refine sh_callE ?_ ?_ | exact sh_lenG | exact sh_tupleG | exact sh_listG | exact sh_absG | exact sh_intG | exact sh_minG | exact sh_maxG | exact sh_sum | exact sh_any | exact sh_all | exact sh_pk_srt | exact sh_pk_in | exact sh_pk_nin | exact sh_dictG | exact sh_reprG | refine sh_sortSet ?_ | exact sh_dict0 | refine sh_disp1 ?_ ?_ | refine sh_disp ?_ | exact shpr_nil | refine shpr_cons ?_ ?_ ?_ | refine sh_slice ?_ ?_ ?_ | exact sh_noP | refine sh_someP ?_ | refine sh_rev ?_ | refine sh_methE ?_ ?_ ?_ ?_ | exact shmo_none | exact shmo_app | exact shmo_pop | exact shmo_dpop | exact shmo_index | refine sh_cmpB ?_ | refine sh_truE ?_ | refine sh_notB ?_ | refine sh_andB ?_ ?_ | refine sh_orB ?_ ?_ | exact sh_yesB | refine sh_lcE ?_ ?_ ?_ ?_ | refine sh_dcE ?_ ?_ ?_ ?_ ?_ | refine sh_genE ?_ ?_ ?_ ?_ ?_ | exact sh_eatAny _ | exact sh_eatAll _ | exact sh_eatSum _ | exact sh_eatTup _ | refine sh_seqIV ?_ | refine sh_enumIV ?_ | refine sh_rng1 ?_ | refine sh_rng2 ?_ | refine sh_listRg ?_ | exact sh_setV _ | refine sh_unpack ?_ | exact sh_nilV | refine sh_consV ?_ ?_ | refine sh_subV ?_ ?_)
theorem sh_m_simple_codes : ShC m_simple_codes := by
  have h_m_is_simple_code := sh_m_is_simple_code
  unfold m_simple_codes b_simple_codes
  refine sh_runM ?_
  repeat' with_reducible (first | assumption | exact sh_pass | exact sh_break | exact sh_cont | exact sh_retN | refine sh_seqV ?_ ?_ | refine sh_ret ?_ | refine sh_drop ?_ | refine sh_ifV ?_ ?_ ?_ | refine sh_forIV ?_ ?_ ?_ | refine sh_while ?_ ?_ _ | refine sh_asgV ?_ ?_ | refine sh_parV ?_ | refine sh_par3V ?_ | refine sh_augV ?_ | refine sh_delV ?_ ?_ | exact sh_slotE _ | exact sh_valE (fl_int _) | exact sh_valE (fl_bl _) | exact sh_valE (fl_str _) | exact sh_valE fl_non | exact sh_valE fl_near | exact sh_valE fl_side | refine sh_bind2 ?_ ?_ ?_ | exact sh_bin _ | exact sh_cmp _ | exact sh_ixD | refine sh_chain ?_ ?_ ?_ ?_ ?_ | refine sh_negE ?_ | refine sh_notE ?_ | refine sh_andE ?_ ?_ | refine sh_orE ?_ ?_ | refine sh_ifE ?_ ?_ ?_ | refine sh_tupE ?_ | refine sh_lstE ?_ | exact sh_nilA | refine sh_consA ?_ ?_ | refine sh_callE ?_ ?_ | exact sh_lenG | exact sh_tupleG | exact sh_listG | exact sh_absG | exact sh_intG | exact sh_minG | exact sh_maxG | exact sh_sum | exact sh_any | exact sh_all | exact sh_pk_srt | exact sh_pk_in | exact sh_pk_nin | exact sh_dictG | exact sh_reprG | refine sh_sortSet ?_ | exact sh_dict0 | refine sh_disp1 ?_ ?_ | refine sh_disp ?_ | exact shpr_nil | refine shpr_cons ?_ ?_ ?_ | refine sh_slice ?_ ?_ ?_ | exact sh_noP | refine sh_someP ?_ | refine sh_rev ?_ | refine sh_methE ?_ ?_ ?_ ?_ | exact shmo_none | exact shmo_app | exact shmo_pop | exact shmo_dpop | exact shmo_index | refine sh_cmpB ?_ | refine sh_truE ?_ | refine sh_notB ?_ | refine sh_andB ?_ ?_ | refine sh_orB ?_ ?_ | exact sh_yesB | refine sh_lcE ?_ ?_ ?_ ?_ | refine sh_dcE ?_ ?_ ?_ ?_ ?_ | refine sh_genE ?_ ?_ ?_ ?_ ?_ | exact sh_eatAny _ | exact sh_eatAll _ | exact sh_eatSum _ | exact sh_eatTup _ | refine sh_seqIV ?_ | refine sh_enumIV ?_ | refine sh_rng1 ?_ | refine sh_rng2 ?_ | refine sh_listRg ?_ | exact sh_setV _ | refine sh_unpack ?_ | exact sh_nilV | refine sh_consV ?_ ?_ | refine sh_subV ?_ ?_)
theorem sh_m_is_simple_in : ShC m_is_simple_in := by
  have h_m_is_simple_code := sh_m_is_simple_code
  have h_m_code_in := sh_m_code_in
  unfold m_is_simple_in b_is_simple_in
  refine sh_runM ?_
  repeat' with_reducible (first | assumption | exact sh_pass | exact sh_break | exact sh_cont | exact sh_retN | refine sh_seqV ?_ ?_ | refine sh_ret ?_ | refine sh_drop ?_ | refine sh_ifV ?_ ?_ ?_ | refine sh_forIV ?_ ?_ ?_ | refine sh_while ?_ ?_ _ | refine sh_asgV ?_ ?_ | refine sh_parV ?_ | refine sh_par3V ?_ | refine sh_augV ?_ | refine sh_delV ?_ ?_ | exact sh_slotE _ | exact sh_valE (fl_int _) | exact sh_valE (fl_bl _) | exact sh_valE (fl_str _) | exact sh_valE fl_non | exact sh_valE fl_near | exact sh_valE fl_side | refine sh_bind2 ?_ ?_ ?_ | exact sh_bin _ | exact sh_cmp _ | exact sh_ixD | refine sh_chain ?_ ?_ ?_ ?_ ?_ | refine sh_negE ?_ | refine sh_notE ?_ | refine sh_andE ?_ ?_ | refine sh_orE ?_ ?_ | refine sh_ifE ?_ ?_ ?_ | refine sh_tupE ?_ | refine sh_lstE ?_ | exact sh_nilA | refine sh_consA ?_ ?_ | refine sh_callE ?_ ?_ | exact sh_lenG | exact sh_tupleG | exact sh_listG | exact sh_absG | exact sh_intG | exact sh_minG | exact sh_maxG | exact sh_sum | exact sh_any | exact sh_all | exact sh_pk_srt | exact sh_pk_in | exact sh_pk_nin | exact sh_dictG | exact sh_reprG | refine sh_sortSet ?_ | exact sh_dict0 | refine sh_disp1 ?_ ?_ | refine sh_disp ?_ | exact shpr_nil | refine shpr_cons ?_ ?_ ?_ | refine sh_slice ?_ ?_ ?_ | exact sh_noP | refine sh_someP ?_ | refine sh_rev ?_ | refine sh_methE ?_ ?_ ?_ ?_ | exact shmo_none | exact shmo_app | exact shmo_pop | exact shmo_dpop | exact shmo_index | refine sh_cmpB ?_ | refine sh_truE ?_ | refine sh_notB ?_ | refine sh_andB ?_ ?_ | refine sh_orB ?_ ?_ | exact sh_yesB | refine sh_lcE ?_ ?_ ?_ ?_ | refine sh_dcE ?_ ?_ ?_ ?_ ?_ | refine sh_genE ?_ ?_ ?_ ?_ ?_ | exact sh_eatAny _ | exact sh_eatAll _ | exact sh_eatSum _ | exact sh_eatTup _ | refine sh_seqIV ?_ | refine sh_enumIV ?_ | refine sh_rng1 ?_ | refine sh_rng2 ?_ | refine sh_listRg ?_ | exact sh_setV _ | refine sh_unpack ?_ | exact sh_nilV | refine sh_consV ?_ ?_ | refine sh_subV ?_ ?_)
theorem sh_m_is_simple : ShC m_is_simple := by
  have h_m_cell_table := sh_m_cell_table
  have h_m_is_simple_in := sh_m_is_simple_in
  unfold m_is_simple b_is_simple
  refine sh_runM ?_
  repeat' with_reducible (first | assumption | exact sh_pass | exact sh_break | exact sh_cont | exact sh_retN | refine sh_seqV ?_ ?_ | refine sh_ret ?_ | refine sh_drop ?_ | refine sh_ifV ?_ ?_ ?_ | refine sh_forIV ?_ ?_ ?_ | refine sh_while ?_ ?_ _ | refine sh_asgV ?_ ?_ | refine sh_parV ?_ | refine sh_par3V ?_ | refine sh_augV ?_ | refine sh_delV ?_ ?_ | exact sh_slotE _ | exact sh_valE (fl_int _) | exact sh_valE (fl_bl _) | exact sh_valE (fl_str _) | exact sh_valE fl_non | exact sh_valE fl_near | exact sh_valE fl_side | refine sh_bind2 ?_ ?_ ?_ | exact sh_bin _ | exact sh_cmp _ | exact sh_ixD | refine sh_chain ?_ ?_ ?_ ?_ ?_ | refine sh_negE ?_ | refine sh_notE ?_ | refine sh_andE ?_ ?_ | refine sh_orE ?_ ?_ | refine sh_ifE ?_ ?_ ?_ | refine sh_tupE ?_ | refine sh_lstE ?_ | exact sh_nilA | refine sh_consA ?_ ?_ | refine sh_callE ?_ ?_ | exact sh_lenG | exact sh_tupleG | exact sh_listG | exact sh_absG | exact sh_intG | exact sh_minG | exact sh_maxG | exact sh_sum | exact sh_any | exact sh_all | exact sh_pk_srt | exact sh_pk_in | exact sh_pk_nin | exact sh_dictG | exact sh_reprG | refine sh_sortSet ?_ | exact sh_dict0 | refine sh_disp1 ?_ ?_ | refine sh_disp ?_ | exact shpr_nil | refine shpr_cons ?_ ?_ ?_ | refine sh_slice ?_ ?_ ?_ | exact sh_noP | refine sh_someP ?_ | refine sh_rev ?_ | refine sh_methE ?_ ?_ ?_ ?_ | exact shmo_none | exact shmo_app | exact shmo_pop | exact shmo_dpop | exact shmo_index | refine sh_cmpB ?_ | refine sh_truE ?_ | refine sh_notB ?_ | refine sh_andB ?_ ?_ | refine sh_orB ?_ ?_ | exact sh_yesB | refine sh_lcE ?_ ?_ ?_ ?_ | refine sh_dcE ?_ ?_ ?_ ?_ ?_ | refine sh_genE ?_ ?_ ?_ ?_ ?_ | exact sh_eatAny _ | exact sh_eatAll _ | exact sh_eatSum _ | exact sh_eatTup _ | refine sh_seqIV ?_ | refine sh_enumIV ?_ | refine sh_rng1 ?_ | refine sh_rng2 ?_ | refine sh_listRg ?_ | exact sh_setV _ | refine sh_unpack ?_ | exact sh_nilV | refine sh_consV ?_ ?_ | refine sh_subV ?_ ?_)
theorem sh_m_simple_cells : ShC m_simple_cells := by
  have h_m_cell_table := sh_m_cell_table
  have h_m_is_simple_in := sh_m_is_simple_in
  unfold m_simple_cells b_simple_cells
  refine sh_runM ?_
  repeat' with_reducible (first | assumption | exact sh_pass | exact sh_break | exact sh_cont | exact sh_retN | refine sh_seqV ?_ ?_ | refine sh_ret ?_ | refine sh_drop ?_ | refine sh_ifV ?_ ?_ ?_ | refine sh_forIV ?_ ?_ ?_ | refine sh_while ?_ ?_ _ | refine sh_asgV ?_ ?_ | refine sh_parV ?_ | refine sh_par3V ?_ | refine sh_augV ?_ | refine sh_delV ?_ ?_ | exact sh_slotE _ | exact sh_valE (fl_int _) | exact sh_valE (fl_bl _) | exact sh_valE (fl_str _) | exact sh_valE fl_non | exact sh_valE fl_near | exact sh_valE fl_side | refine sh_bind2 ?_ ?_ ?_ | exact sh_bin _ | exact sh_cmp _ | exact sh_ixD | refine sh_chain ?_ ?_ ?_ ?_ ?_ | refine sh_negE ?_ | refine sh_notE ?_ | refine sh_andE ?_ ?_ | refine sh_orE ?_ ?_ | refine sh_ifE ?_ ?_ ?_ | refine sh_tupE ?_ | refine sh_lstE ?_ | exact sh_nilA | refine sh_consA ?_ ?_ | refine sh_callE ?_ ?_ | exact sh_lenG | exact sh_tupleG | exact sh_listG | exact sh_absG | exact sh_intG | exact sh_minG | exact sh_maxG | exact sh_sum | exact sh_any | exact sh_all | exact sh_pk_srt | exact sh_pk_in | exact sh_pk_nin | exact sh_dictG | exact sh_reprG | refine sh_sortSet ?_ | exact sh_dict0 | refine sh_disp1 ?_ ?_ | refine sh_disp ?_ | exact shpr_nil | refine shpr_cons ?_ ?_ ?_ | refine sh_slice ?_ ?_ ?_ | exact sh_noP | refine sh_someP ?_ | refine sh_rev ?_ | refine sh_methE ?_ ?_ ?_ ?_ | exact shmo_none | exact shmo_app | exact shmo_pop | exact shmo_dpop | exact shmo_index | refine sh_cmpB ?_ | refine sh_truE ?_ | refine sh_notB ?_ | refine sh_andB ?_ ?_ | refine sh_orB ?_ ?_ | exact sh_yesB | refine sh_lcE ?_ ?_ ?_ ?_ | refine sh_dcE ?_ ?_ ?_ ?_ ?_ | refine sh_genE ?_ ?_ ?_ ?_ ?_ | exact sh_eatAny _ | exact sh_eatAll _ | exact sh_eatSum _ | exact sh_eatTup _ | refine sh_seqIV ?_ | refine sh_enumIV ?_ | refine sh_rng1 ?_ | refine sh_rng2 ?_ | refine sh_listRg ?_ | exact sh_setV _ | refine sh_unpack ?_ | exact sh_nilV | refine sh_consV ?_ ?_ | refine sh_subV ?_ ?_)
theorem sh_m__law_open_cells : ShC m__law_open_cells := by
  unfold m__law_open_cells b__law_open_cells
  refine sh_runM ?_
  repeat' with_reducible (first | assumption | exact sh_pass | exact sh_break | exact sh_cont | exact sh_retN | refine sh_seqV ?_ ?_ | refine sh_ret ?_ | refine sh_drop ?_ | refine sh_ifV ?_ ?_ ?_ | refine sh_forIV ?_ ?_ ?_ | refine sh_while ?_ ?_ _ | refine sh_asgV ?_ ?_ | refine sh_parV ?_ | refine sh_par3V ?_ | refine sh_augV ?_ | refine sh_delV ?_ ?_ | exact sh_slotE _ | exact sh_valE (fl_int _) | exact sh_valE (fl_bl _) | exact sh_valE (fl_str _) | exact sh_valE fl_non | exact sh_valE fl_near | exact sh_valE fl_side | refine sh_bind2 ?_ ?_ ?_ | exact sh_bin _ | exact sh_cmp _ | exact sh_ixD | refine sh_chain ?_ ?_ ?_ ?_ ?_ | refine sh_negE ?_ | refine sh_notE ?_ | refine sh_andE ?_ ?_ | refine sh_orE ?_ ?_ | refine sh_ifE ?_ ?_ ?_ | refine sh_tupE ?_ | refine sh_lstE ?_ | exact sh_nilA | refine sh_consA ?_ ?_ | refine sh_callE ?_ ?_ | exact sh_lenG | exact sh_tupleG | exact sh_listG | exact sh_absG | exact sh_intG | exact sh_minG | exact sh_maxG | exact sh_sum | exact sh_any | exact sh_all | exact sh_pk_srt | exact sh_pk_in | exact sh_pk_nin | exact sh_dictG | exact sh_reprG | refine sh_sortSet ?_ | exact sh_dict0 | refine sh_disp1 ?_ ?_ | refine sh_disp ?_ | exact shpr_nil | refine shpr_cons ?_ ?_ ?_ | refine sh_slice ?_ ?_ ?_ | exact sh_noP | refine sh_someP ?_ | refine sh_rev ?_ | refine sh_methE ?_ ?_ ?_ ?_ | exact shmo_none | exact shmo_app | exact shmo_pop | exact shmo_dpop | exact shmo_index | refine sh_cmpB ?_ | refine sh_truE ?_ | refine sh_notB ?_ | refine sh_andB ?_ ?_ | refine sh_orB ?_ ?_ | exact sh_yesB | refine sh_lcE ?_ ?_ ?_ ?_ | refine sh_dcE ?_ ?_ ?_ ?_ ?_ | refine sh_genE ?_ ?_ ?_ ?_ ?_ | exact sh_eatAny _ | exact sh_eatAll _ | exact sh_eatSum _ | exact sh_eatTup _ | refine sh_seqIV ?_ | refine sh_enumIV ?_ | refine sh_rng1 ?_ | refine sh_rng2 ?_ | refine sh_listRg ?_ | exact sh_setV _ | refine sh_unpack ?_ | exact sh_nilV | refine sh_consV ?_ ?_ | refine sh_subV ?_ ?_)
theorem sh_m__law_pick : ShC m__law_pick := by
  unfold m__law_pick b__law_pick
  refine sh_runM ?_
  repeat' with_reducible (first | assumption | exact sh_pass | exact sh_break | exact sh_cont | exact sh_retN | refine sh_seqV ?_ ?_ | refine sh_ret ?_ | refine sh_drop ?_ | refine sh_ifV ?_ ?_ ?_ | refine sh_forIV ?_ ?_ ?_ | refine sh_while ?_ ?_ _ | refine sh_asgV ?_ ?_ | refine sh_parV ?_ | refine sh_par3V ?_ | refine sh_augV ?_ | refine sh_delV ?_ ?_ | exact sh_slotE _ | exact sh_valE (fl_int _) | exact sh_valE (fl_bl _) | exact sh_valE (fl_str _) | exact sh_valE fl_non | exact sh_valE fl_near | exact sh_valE fl_side | refine sh_bind2 ?_ ?_ ?_ | exact sh_bin _ | exact sh_cmp _ | exact sh_ixD | refine sh_chain ?_ ?_ ?_ ?_ ?_ | refine sh_negE ?_ | refine sh_notE ?_ | refine sh_andE ?_ ?_ | refine sh_orE ?_ ?_ | refine sh_ifE ?_ ?_ ?_ | refine sh_tupE ?_ | refine sh_lstE ?_ | exact sh_nilA | refine sh_consA ?_ ?_ | refine sh_callE ?_ ?_ | exact sh_lenG | exact sh_tupleG | exact sh_listG | exact sh_absG | exact sh_intG | exact sh_minG | exact sh_maxG | exact sh_sum | exact sh_any | exact sh_all | exact sh_pk_srt | exact sh_pk_in | exact sh_pk_nin | exact sh_dictG | exact sh_reprG | refine sh_sortSet ?_ | exact sh_dict0 | refine sh_disp1 ?_ ?_ | refine sh_disp ?_ | exact shpr_nil | refine shpr_cons ?_ ?_ ?_ | refine sh_slice ?_ ?_ ?_ | exact sh_noP | refine sh_someP ?_ | refine sh_rev ?_ | refine sh_methE ?_ ?_ ?_ ?_ | exact shmo_none | exact shmo_app | exact shmo_pop | exact shmo_dpop | exact shmo_index | refine sh_cmpB ?_ | refine sh_truE ?_ | refine sh_notB ?_ | refine sh_andB ?_ ?_ | refine sh_orB ?_ ?_ | exact sh_yesB | refine sh_lcE ?_ ?_ ?_ ?_ | refine sh_dcE ?_ ?_ ?_ ?_ ?_ | refine sh_genE ?_ ?_ ?_ ?_ ?_ | exact sh_eatAny _ | exact sh_eatAll _ | exact sh_eatSum _ | exact sh_eatTup _ | refine sh_seqIV ?_ | refine sh_enumIV ?_ | refine sh_rng1 ?_ | refine sh_rng2 ?_ | refine sh_listRg ?_ | exact sh_setV _ | refine sh_unpack ?_ | exact sh_nilV | refine sh_consV ?_ ?_ | refine sh_subV ?_ ?_)
theorem sh_m__law_any_order : ShC m__law_any_order := by
  have h_m__law_pick := sh_m__law_pick
  unfold m__law_any_order b__law_any_order
  refine sh_runM ?_
  repeat' with_reducible (first | assumption | exact sh_pass | exact sh_break | exact sh_cont | exact sh_retN | refine sh_seqV ?_ ?_ | refine sh_ret ?_ | refine sh_drop ?_ | refine sh_ifV ?_ ?_ ?_ | refine sh_forIV ?_ ?_ ?_ | refine sh_while ?_ ?_ _ | refine sh_asgV ?_ ?_ | refine sh_parV ?_ | refine sh_par3V ?_ | refine sh_augV ?_ | refine sh_delV ?_ ?_ | exact sh_slotE _ | exact sh_valE (fl_int _) | exact sh_valE (fl_bl _) | exact sh_valE (fl_str _) | exact sh_valE fl_non | exact sh_valE fl_near | exact sh_valE fl_side | refine sh_bind2 ?_ ?_ ?_ | exact sh_bin _ | exact sh_cmp _ | exact sh_ixD | refine sh_chain ?_ ?_ ?_ ?_ ?_ | refine sh_negE ?_ | refine sh_notE ?_ | refine sh_andE ?_ ?_ | refine sh_orE ?_ ?_ | refine sh_ifE ?_ ?_ ?_ | refine sh_tupE ?_ | refine sh_lstE ?_ | exact sh_nilA | refine sh_consA ?_ ?_ | refine sh_callE ?_ ?_ | exact sh_lenG | exact sh_tupleG | exact sh_listG | exact sh_absG | exact sh_intG | exact sh_minG | exact sh_maxG | exact sh_sum | exact sh_any | exact sh_all | exact sh_pk_srt | exact sh_pk_in | exact sh_pk_nin | exact sh_dictG | exact sh_reprG | refine sh_sortSet ?_ | exact sh_dict0 | refine sh_disp1 ?_ ?_ | refine sh_disp ?_ | exact shpr_nil | refine shpr_cons ?_ ?_ ?_ | refine sh_slice ?_ ?_ ?_ | exact sh_noP | refine sh_someP ?_ | refine sh_rev ?_ | refine sh_methE ?_ ?_ ?_ ?_ | exact shmo_none | exact shmo_app | exact shmo_pop | exact shmo_dpop | exact shmo_index | refine sh_cmpB ?_ | refine sh_truE ?_ | refine sh_notB ?_ | refine sh_andB ?_ ?_ | refine sh_orB ?_ ?_ | exact sh_yesB | refine sh_lcE ?_ ?_ ?_ ?_ | refine sh_dcE ?_ ?_ ?_ ?_ ?_ | refine sh_genE ?_ ?_ ?_ ?_ ?_ | exact sh_eatAny _ | exact sh_eatAll _ | exact sh_eatSum _ | exact sh_eatTup _ | refine sh_seqIV ?_ | refine sh_enumIV ?_ | refine sh_rng1 ?_ | refine sh_rng2 ?_ | refine sh_listRg ?_ | exact sh_setV _ | refine sh_unpack ?_ | exact sh_nilV | refine sh_consV ?_ ?_ | refine sh_subV ?_ ?_)
theorem sh_m__law_sides : ShC m__law_sides := by
  unfold m__law_sides b__law_sides
  refine sh_runM ?_
  repeat' with_reducible (first | assumption | exact sh_pass | exact sh_break | exact sh_cont | exact sh_retN | refine sh_seqV ?_ ?_ | refine sh_ret ?_ | refine sh_drop ?_ | refine sh_ifV ?_ ?_ ?_ | refine sh_forIV ?_ ?_ ?_ | refine sh_while ?_ ?_ _ | refine sh_asgV ?_ ?_ | refine sh_parV ?_ | refine sh_par3V ?_ | refine sh_augV ?_ | refine sh_delV ?_ ?_ | exact sh_slotE _ | exact sh_valE (fl_int _) | exact sh_valE (fl_bl _) | exact sh_valE (fl_str _) | exact sh_valE fl_non | exact sh_valE fl_near | exact sh_valE fl_side | refine sh_bind2 ?_ ?_ ?_ | exact sh_bin _ | exact sh_cmp _ | exact sh_ixD | refine sh_chain ?_ ?_ ?_ ?_ ?_ | refine sh_negE ?_ | refine sh_notE ?_ | refine sh_andE ?_ ?_ | refine sh_orE ?_ ?_ | refine sh_ifE ?_ ?_ ?_ | refine sh_tupE ?_ | refine sh_lstE ?_ | exact sh_nilA | refine sh_consA ?_ ?_ | refine sh_callE ?_ ?_ | exact sh_lenG | exact sh_tupleG | exact sh_listG | exact sh_absG | exact sh_intG | exact sh_minG | exact sh_maxG | exact sh_sum | exact sh_any | exact sh_all | exact sh_pk_srt | exact sh_pk_in | exact sh_pk_nin | exact sh_dictG | exact sh_reprG | refine sh_sortSet ?_ | exact sh_dict0 | refine sh_disp1 ?_ ?_ | refine sh_disp ?_ | exact shpr_nil | refine shpr_cons ?_ ?_ ?_ | refine sh_slice ?_ ?_ ?_ | exact sh_noP | refine sh_someP ?_ | refine sh_rev ?_ | refine sh_methE ?_ ?_ ?_ ?_ | exact shmo_none | exact shmo_app | exact shmo_pop | exact shmo_dpop | exact shmo_index | refine sh_cmpB ?_ | refine sh_truE ?_ | refine sh_notB ?_ | refine sh_andB ?_ ?_ | refine sh_orB ?_ ?_ | exact sh_yesB | refine sh_lcE ?_ ?_ ?_ ?_ | refine sh_dcE ?_ ?_ ?_ ?_ ?_ | refine sh_genE ?_ ?_ ?_ ?_ ?_ | exact sh_eatAny _ | exact sh_eatAll _ | exact sh_eatSum _ | exact sh_eatTup _ | refine sh_seqIV ?_ | refine sh_enumIV ?_ | refine sh_rng1 ?_ | refine sh_rng2 ?_ | refine sh_listRg ?_ | exact sh_setV _ | refine sh_unpack ?_ | exact sh_nilV | refine sh_consV ?_ ?_ | refine sh_subV ?_ ?_)
theorem sh_m__law_near : ShC m__law_near := by
  unfold m__law_near b__law_near
  refine sh_runM ?_
  repeat' with_reducible (first | assumption | exact sh_pass | exact sh_break | exact sh_cont | exact sh_retN | refine sh_seqV ?_ ?_ | refine sh_ret ?_ | refine sh_drop ?_ | refine sh_ifV ?_ ?_ ?_ | refine sh_forIV ?_ ?_ ?_ | refine sh_while ?_ ?_ _ | refine sh_asgV ?_ ?_ | refine sh_parV ?_ | refine sh_par3V ?_ | refine sh_augV ?_ | refine sh_delV ?_ ?_ | exact sh_slotE _ | exact sh_valE (fl_int _) | exact sh_valE (fl_bl _) | exact sh_valE (fl_str _) | exact sh_valE fl_non | exact sh_valE fl_near | exact sh_valE fl_side | refine sh_bind2 ?_ ?_ ?_ | exact sh_bin _ | exact sh_cmp _ | exact sh_ixD | refine sh_chain ?_ ?_ ?_ ?_ ?_ | refine sh_negE ?_ | refine sh_notE ?_ | refine sh_andE ?_ ?_ | refine sh_orE ?_ ?_ | refine sh_ifE ?_ ?_ ?_ | refine sh_tupE ?_ | refine sh_lstE ?_ | exact sh_nilA | refine sh_consA ?_ ?_ | refine sh_callE ?_ ?_ | exact sh_lenG | exact sh_tupleG | exact sh_listG | exact sh_absG | exact sh_intG | exact sh_minG | exact sh_maxG | exact sh_sum | exact sh_any | exact sh_all | exact sh_pk_srt | exact sh_pk_in | exact sh_pk_nin | exact sh_dictG | exact sh_reprG | refine sh_sortSet ?_ | exact sh_dict0 | refine sh_disp1 ?_ ?_ | refine sh_disp ?_ | exact shpr_nil | refine shpr_cons ?_ ?_ ?_ | refine sh_slice ?_ ?_ ?_ | exact sh_noP | refine sh_someP ?_ | refine sh_rev ?_ | refine sh_methE ?_ ?_ ?_ ?_ | exact shmo_none | exact shmo_app | exact shmo_pop | exact shmo_dpop | exact shmo_index | refine sh_cmpB ?_ | refine sh_truE ?_ | refine sh_notB ?_ | refine sh_andB ?_ ?_ | refine sh_orB ?_ ?_ | exact sh_yesB | refine sh_lcE ?_ ?_ ?_ ?_ | refine sh_dcE ?_ ?_ ?_ ?_ ?_ | refine sh_genE ?_ ?_ ?_ ?_ ?_ | exact sh_eatAny _ | exact sh_eatAll _ | exact sh_eatSum _ | exact sh_eatTup _ | refine sh_seqIV ?_ | refine sh_enumIV ?_ | refine sh_rng1 ?_ | refine sh_rng2 ?_ | refine sh_listRg ?_ | exact sh_setV _ | refine sh_unpack ?_ | exact sh_nilV | refine sh_consV ?_ ?_ | refine sh_subV ?_ ?_)
theorem sh_m__law_parts_by : ShC m__law_parts_by := by
  have h_m__law_near := sh_m__law_near
  have h_m__law_sides := sh_m__law_sides
  unfold m__law_parts_by b__law_parts_by
  refine sh_runM ?_
  repeat' with_reducible (first | assumption | exact sh_pass | exact sh_break | exact sh_cont | exact sh_retN | refine sh_seqV ?_ ?_ | refine sh_ret ?_ | refine sh_drop ?_ | refine sh_ifV ?_ ?_ ?_ | refine sh_forIV ?_ ?_ ?_ | refine sh_while ?_ ?_ _ | refine sh_asgV ?_ ?_ | refine sh_parV ?_ | refine sh_par3V ?_ | refine sh_augV ?_ | refine sh_delV ?_ ?_ | exact sh_slotE _ | exact sh_valE (fl_int _) | exact sh_valE (fl_bl _) | exact sh_valE (fl_str _) | exact sh_valE fl_non | exact sh_valE fl_near | exact sh_valE fl_side | refine sh_bind2 ?_ ?_ ?_ | exact sh_bin _ | exact sh_cmp _ | exact sh_ixD | refine sh_chain ?_ ?_ ?_ ?_ ?_ | refine sh_negE ?_ | refine sh_notE ?_ | refine sh_andE ?_ ?_ | refine sh_orE ?_ ?_ | refine sh_ifE ?_ ?_ ?_ | refine sh_tupE ?_ | refine sh_lstE ?_ | exact sh_nilA | refine sh_consA ?_ ?_ | refine sh_callE ?_ ?_ | exact sh_lenG | exact sh_tupleG | exact sh_listG | exact sh_absG | exact sh_intG | exact sh_minG | exact sh_maxG | exact sh_sum | exact sh_any | exact sh_all | exact sh_pk_srt | exact sh_pk_in | exact sh_pk_nin | exact sh_dictG | exact sh_reprG | refine sh_sortSet ?_ | exact sh_dict0 | refine sh_disp1 ?_ ?_ | refine sh_disp ?_ | exact shpr_nil | refine shpr_cons ?_ ?_ ?_ | refine sh_slice ?_ ?_ ?_ | exact sh_noP | refine sh_someP ?_ | refine sh_rev ?_ | refine sh_methE ?_ ?_ ?_ ?_ | exact shmo_none | exact shmo_app | exact shmo_pop | exact shmo_dpop | exact shmo_index | refine sh_cmpB ?_ | refine sh_truE ?_ | refine sh_notB ?_ | refine sh_andB ?_ ?_ | refine sh_orB ?_ ?_ | exact sh_yesB | refine sh_lcE ?_ ?_ ?_ ?_ | refine sh_dcE ?_ ?_ ?_ ?_ ?_ | refine sh_genE ?_ ?_ ?_ ?_ ?_ | exact sh_eatAny _ | exact sh_eatAll _ | exact sh_eatSum _ | exact sh_eatTup _ | refine sh_seqIV ?_ | refine sh_enumIV ?_ | refine sh_rng1 ?_ | refine sh_rng2 ?_ | refine sh_listRg ?_ | exact sh_setV _ | refine sh_unpack ?_ | exact sh_nilV | refine sh_consV ?_ ?_ | refine sh_subV ?_ ?_)
theorem sh_m__law_frame : ShC m__law_frame := by
  unfold m__law_frame b__law_frame
  refine sh_runM ?_
  repeat' with_reducible (first | assumption | exact sh_pass | exact sh_break | exact sh_cont | exact sh_retN | refine sh_seqV ?_ ?_ | refine sh_ret ?_ | refine sh_drop ?_ | refine sh_ifV ?_ ?_ ?_ | refine sh_forIV ?_ ?_ ?_ | refine sh_while ?_ ?_ _ | refine sh_asgV ?_ ?_ | refine sh_parV ?_ | refine sh_par3V ?_ | refine sh_augV ?_ | refine sh_delV ?_ ?_ | exact sh_slotE _ | exact sh_valE (fl_int _) | exact sh_valE (fl_bl _) | exact sh_valE (fl_str _) | exact sh_valE fl_non | exact sh_valE fl_near | exact sh_valE fl_side | refine sh_bind2 ?_ ?_ ?_ | exact sh_bin _ | exact sh_cmp _ | exact sh_ixD | refine sh_chain ?_ ?_ ?_ ?_ ?_ | refine sh_negE ?_ | refine sh_notE ?_ | refine sh_andE ?_ ?_ | refine sh_orE ?_ ?_ | refine sh_ifE ?_ ?_ ?_ | refine sh_tupE ?_ | refine sh_lstE ?_ | exact sh_nilA | refine sh_consA ?_ ?_ | refine sh_callE ?_ ?_ | exact sh_lenG | exact sh_tupleG | exact sh_listG | exact sh_absG | exact sh_intG | exact sh_minG | exact sh_maxG | exact sh_sum | exact sh_any | exact sh_all | exact sh_pk_srt | exact sh_pk_in | exact sh_pk_nin | exact sh_dictG | exact sh_reprG | refine sh_sortSet ?_ | exact sh_dict0 | refine sh_disp1 ?_ ?_ | refine sh_disp ?_ | exact shpr_nil | refine shpr_cons ?_ ?_ ?_ | refine sh_slice ?_ ?_ ?_ | exact sh_noP | refine sh_someP ?_ | refine sh_rev ?_ | refine sh_methE ?_ ?_ ?_ ?_ | exact shmo_none | exact shmo_app | exact shmo_pop | exact shmo_dpop | exact shmo_index | refine sh_cmpB ?_ | refine sh_truE ?_ | refine sh_notB ?_ | refine sh_andB ?_ ?_ | refine sh_orB ?_ ?_ | exact sh_yesB | refine sh_lcE ?_ ?_ ?_ ?_ | refine sh_dcE ?_ ?_ ?_ ?_ ?_ | refine sh_genE ?_ ?_ ?_ ?_ ?_ | exact sh_eatAny _ | exact sh_eatAll _ | exact sh_eatSum _ | exact sh_eatTup _ | refine sh_seqIV ?_ | refine sh_enumIV ?_ | refine sh_rng1 ?_ | refine sh_rng2 ?_ | refine sh_listRg ?_ | exact sh_setV _ | refine sh_unpack ?_ | exact sh_nilV | refine sh_consV ?_ ?_ | refine sh_subV ?_ ?_)
theorem sh_m__law_code : ShC m__law_code := by
  have h_m__law_near := sh_m__law_near
  unfold m__law_code b__law_code
  refine sh_runM ?_
  repeat' with_reducible (first | assumption | exact sh_pass | exact sh_break | exact sh_cont | exact sh_retN | refine sh_seqV ?_ ?_ | refine sh_ret ?_ | refine sh_drop ?_ | refine sh_ifV ?_ ?_ ?_ | refine sh_forIV ?_ ?_ ?_ | refine sh_while ?_ ?_ _ | refine sh_asgV ?_ ?_ | refine sh_parV ?_ | refine sh_par3V ?_ | refine sh_augV ?_ | refine sh_delV ?_ ?_ | exact sh_slotE _ | exact sh_valE (fl_int _) | exact sh_valE (fl_bl _) | exact sh_valE (fl_str _) | exact sh_valE fl_non | exact sh_valE fl_near | exact sh_valE fl_side | refine sh_bind2 ?_ ?_ ?_ | exact sh_bin _ | exact sh_cmp _ | exact sh_ixD | refine sh_chain ?_ ?_ ?_ ?_ ?_ | refine sh_negE ?_ | refine sh_notE ?_ | refine sh_andE ?_ ?_ | refine sh_orE ?_ ?_ | refine sh_ifE ?_ ?_ ?_ | refine sh_tupE ?_ | refine sh_lstE ?_ | exact sh_nilA | refine sh_consA ?_ ?_ | refine sh_callE ?_ ?_ | exact sh_lenG | exact sh_tupleG | exact sh_listG | exact sh_absG | exact sh_intG | exact sh_minG | exact sh_maxG | exact sh_sum | exact sh_any | exact sh_all | exact sh_pk_srt | exact sh_pk_in | exact sh_pk_nin | exact sh_dictG | exact sh_reprG | refine sh_sortSet ?_ | exact sh_dict0 | refine sh_disp1 ?_ ?_ | refine sh_disp ?_ | exact shpr_nil | refine shpr_cons ?_ ?_ ?_ | refine sh_slice ?_ ?_ ?_ | exact sh_noP | refine sh_someP ?_ | refine sh_rev ?_ | refine sh_methE ?_ ?_ ?_ ?_ | exact shmo_none | exact shmo_app | exact shmo_pop | exact shmo_dpop | exact shmo_index | refine sh_cmpB ?_ | refine sh_truE ?_ | refine sh_notB ?_ | refine sh_andB ?_ ?_ | refine sh_orB ?_ ?_ | exact sh_yesB | refine sh_lcE ?_ ?_ ?_ ?_ | refine sh_dcE ?_ ?_ ?_ ?_ ?_ | refine sh_genE ?_ ?_ ?_ ?_ ?_ | exact sh_eatAny _ | exact sh_eatAll _ | exact sh_eatSum _ | exact sh_eatTup _ | refine sh_seqIV ?_ | refine sh_enumIV ?_ | refine sh_rng1 ?_ | refine sh_rng2 ?_ | refine sh_listRg ?_ | exact sh_setV _ | refine sh_unpack ?_ | exact sh_nilV | refine sh_consV ?_ ?_ | refine sh_subV ?_ ?_)
theorem sh_m__law_round : ShC m__law_round := by
  have h_m__law_near := sh_m__law_near
  unfold m__law_round b__law_round
  refine sh_runM ?_
  repeat' with_reducible (first | assumption | exact sh_pass | exact sh_break | exact sh_cont | exact sh_retN | refine sh_seqV ?_ ?_ | refine sh_ret ?_ | refine sh_drop ?_ | refine sh_ifV ?_ ?_ ?_ | refine sh_forIV ?_ ?_ ?_ | refine sh_while ?_ ?_ _ | refine sh_asgV ?_ ?_ | refine sh_parV ?_ | refine sh_par3V ?_ | refine sh_augV ?_ | refine sh_delV ?_ ?_ | exact sh_slotE _ | exact sh_valE (fl_int _) | exact sh_valE (fl_bl _) | exact sh_valE (fl_str _) | exact sh_valE fl_non | exact sh_valE fl_near | exact sh_valE fl_side | refine sh_bind2 ?_ ?_ ?_ | exact sh_bin _ | exact sh_cmp _ | exact sh_ixD | refine sh_chain ?_ ?_ ?_ ?_ ?_ | refine sh_negE ?_ | refine sh_notE ?_ | refine sh_andE ?_ ?_ | refine sh_orE ?_ ?_ | refine sh_ifE ?_ ?_ ?_ | refine sh_tupE ?_ | refine sh_lstE ?_ | exact sh_nilA | refine sh_consA ?_ ?_ | refine sh_callE ?_ ?_ | exact sh_lenG | exact sh_tupleG | exact sh_listG | exact sh_absG | exact sh_intG | exact sh_minG | exact sh_maxG | exact sh_sum | exact sh_any | exact sh_all | exact sh_pk_srt | exact sh_pk_in | exact sh_pk_nin | exact sh_dictG | exact sh_reprG | refine sh_sortSet ?_ | exact sh_dict0 | refine sh_disp1 ?_ ?_ | refine sh_disp ?_ | exact shpr_nil | refine shpr_cons ?_ ?_ ?_ | refine sh_slice ?_ ?_ ?_ | exact sh_noP | refine sh_someP ?_ | refine sh_rev ?_ | refine sh_methE ?_ ?_ ?_ ?_ | exact shmo_none | exact shmo_app | exact shmo_pop | exact shmo_dpop | exact shmo_index | refine sh_cmpB ?_ | refine sh_truE ?_ | refine sh_notB ?_ | refine sh_andB ?_ ?_ | refine sh_orB ?_ ?_ | exact sh_yesB | refine sh_lcE ?_ ?_ ?_ ?_ | refine sh_dcE ?_ ?_ ?_ ?_ ?_ | refine sh_genE ?_ ?_ ?_ ?_ ?_ | exact sh_eatAny _ | exact sh_eatAll _ | exact sh_eatSum _ | exact sh_eatTup _ | refine sh_seqIV ?_ | refine sh_enumIV ?_ | refine sh_rng1 ?_ | refine sh_rng2 ?_ | refine sh_listRg ?_ | exact sh_setV _ | refine sh_unpack ?_ | exact sh_nilV | refine sh_consV ?_ ?_ | refine sh_subV ?_ ?_)
theorem sh_m__law_is_simple : ShC m__law_is_simple := by
  have h_m__law_round := sh_m__law_round
  have h_m__law_near := sh_m__law_near
  have h_m__law_parts_by := sh_m__law_parts_by
  have h_m__law_sides := sh_m__law_sides
  unfold m__law_is_simple b__law_is_simple
  refine sh_runM ?_
  repeat' with_reducible (first | assumption | exact sh_pass | exact sh_break | exact sh_cont | exact sh_retN | refine sh_seqV ?_ ?_ | refine sh_ret ?_ | refine sh_drop ?_ | refine sh_ifV ?_ ?_ ?_ | refine sh_forIV ?_ ?_ ?_ | refine sh_while ?_ ?_ _ | refine sh_asgV ?_ ?_ | refine sh_parV ?_ | refine sh_par3V ?_ | refine sh_augV ?_ | refine sh_delV ?_ ?_ | exact sh_slotE _ | exact sh_valE (fl_int _) | exact sh_valE (fl_bl _) | exact sh_valE (fl_str _) | exact sh_valE fl_non | exact sh_valE fl_near | exact sh_valE fl_side | refine sh_bind2 ?_ ?_ ?_ | exact sh_bin _ | exact sh_cmp _ | exact sh_ixD | refine sh_chain ?_ ?_ ?_ ?_ ?_ | refine sh_negE ?_ | refine sh_notE ?_ | refine sh_andE ?_ ?_ | refine sh_orE ?_ ?_ | refine sh_ifE ?_ ?_ ?_ | refine sh_tupE ?_ | refine sh_lstE ?_ | exact sh_nilA | refine sh_consA ?_ ?_ | refine sh_callE ?_ ?_ | exact sh_lenG | exact sh_tupleG | exact sh_listG | exact sh_absG | exact sh_intG | exact sh_minG | exact sh_maxG | exact sh_sum | exact sh_any | exact sh_all | exact sh_pk_srt | exact sh_pk_in | exact sh_pk_nin | exact sh_dictG | exact sh_reprG | refine sh_sortSet ?_ | exact sh_dict0 | refine sh_disp1 ?_ ?_ | refine sh_disp ?_ | exact shpr_nil | refine shpr_cons ?_ ?_ ?_ | refine sh_slice ?_ ?_ ?_ | exact sh_noP | refine sh_someP ?_ | refine sh_rev ?_ | refine sh_methE ?_ ?_ ?_ ?_ | exact shmo_none | exact shmo_app | exact shmo_pop | exact shmo_dpop | exact shmo_index | refine sh_cmpB ?_ | refine sh_truE ?_ | refine sh_notB ?_ | refine sh_andB ?_ ?_ | refine sh_orB ?_ ?_ | exact sh_yesB | refine sh_lcE ?_ ?_ ?_ ?_ | refine sh_dcE ?_ ?_ ?_ ?_ ?_ | refine sh_genE ?_ ?_ ?_ ?_ ?_ | exact sh_eatAny _ | exact sh_eatAll _ | exact sh_eatSum _ | exact sh_eatTup _ | refine sh_seqIV ?_ | refine sh_enumIV ?_ | refine sh_rng1 ?_ | refine sh_rng2 ?_ | refine sh_listRg ?_ | exact sh_setV _ | refine sh_unpack ?_ | exact sh_nilV | refine sh_consV ?_ ?_ | refine sh_subV ?_ ?_)
theorem sh_m__law_draw_picture : ShC m__law_draw_picture := by
  have h_m__law_pick := sh_m__law_pick
  unfold m__law_draw_picture b__law_draw_picture
  refine sh_runM ?_
  repeat' with_reducible (first | assumption | exact sh_pass | exact sh_break | exact sh_cont | exact sh_retN | refine sh_seqV ?_ ?_ | refine sh_ret ?_ | refine sh_drop ?_ | refine sh_ifV ?_ ?_ ?_ | refine sh_forIV ?_ ?_ ?_ | refine sh_while ?_ ?_ _ | refine sh_asgV ?_ ?_ | refine sh_parV ?_ | refine sh_par3V ?_ | refine sh_augV ?_ | refine sh_delV ?_ ?_ | exact sh_slotE _ | exact sh_valE (fl_int _) | exact sh_valE (fl_bl _) | exact sh_valE (fl_str _) | exact sh_valE fl_non | exact sh_valE fl_near | exact sh_valE fl_side | refine sh_bind2 ?_ ?_ ?_ | exact sh_bin _ | exact sh_cmp _ | exact sh_ixD | refine sh_chain ?_ ?_ ?_ ?_ ?_ | refine sh_negE ?_ | refine sh_notE ?_ | refine sh_andE ?_ ?_ | refine sh_orE ?_ ?_ | refine sh_ifE ?_ ?_ ?_ | refine sh_tupE ?_ | refine sh_lstE ?_ | exact sh_nilA | refine sh_consA ?_ ?_ | refine sh_callE ?_ ?_ | exact sh_lenG | exact sh_tupleG | exact sh_listG | exact sh_absG | exact sh_intG | exact sh_minG | exact sh_maxG | exact sh_sum | exact sh_any | exact sh_all | exact sh_pk_srt | exact sh_pk_in | exact sh_pk_nin | exact sh_dictG | exact sh_reprG | refine sh_sortSet ?_ | exact sh_dict0 | refine sh_disp1 ?_ ?_ | refine sh_disp ?_ | exact shpr_nil | refine shpr_cons ?_ ?_ ?_ | refine sh_slice ?_ ?_ ?_ | exact sh_noP | refine sh_someP ?_ | refine sh_rev ?_ | refine sh_methE ?_ ?_ ?_ ?_ | exact shmo_none | exact shmo_app | exact shmo_pop | exact shmo_dpop | exact shmo_index | refine sh_cmpB ?_ | refine sh_truE ?_ | refine sh_notB ?_ | refine sh_andB ?_ ?_ | refine sh_orB ?_ ?_ | exact sh_yesB | refine sh_lcE ?_ ?_ ?_ ?_ | refine sh_dcE ?_ ?_ ?_ ?_ ?_ | refine sh_genE ?_ ?_ ?_ ?_ ?_ | exact sh_eatAny _ | exact sh_eatAll _ | exact sh_eatSum _ | exact sh_eatTup _ | refine sh_seqIV ?_ | refine sh_enumIV ?_ | refine sh_rng1 ?_ | refine sh_rng2 ?_ | refine sh_listRg ?_ | exact sh_setV _ | refine sh_unpack ?_ | exact sh_nilV | refine sh_consV ?_ ?_ | refine sh_subV ?_ ?_)
theorem sh_m__law_runs_of : ShC m__law_runs_of := by
  have h_m__law_near := sh_m__law_near
  have h_m__law_parts_by := sh_m__law_parts_by
  unfold m__law_runs_of b__law_runs_of
  refine sh_runM ?_
  repeat' with_reducible (first | assumption | exact sh_pass | exact sh_break | exact sh_cont | exact sh_retN | refine sh_seqV ?_ ?_ | refine sh_ret ?_ | refine sh_drop ?_ | refine sh_ifV ?_ ?_ ?_ | refine sh_forIV ?_ ?_ ?_ | refine sh_while ?_ ?_ _ | refine sh_asgV ?_ ?_ | refine sh_parV ?_ | refine sh_par3V ?_ | refine sh_augV ?_ | refine sh_delV ?_ ?_ | exact sh_slotE _ | exact sh_valE (fl_int _) | exact sh_valE (fl_bl _) | exact sh_valE (fl_str _) | exact sh_valE fl_non | exact sh_valE fl_near | exact sh_valE fl_side | refine sh_bind2 ?_ ?_ ?_ | exact sh_bin _ | exact sh_cmp _ | exact sh_ixD | refine sh_chain ?_ ?_ ?_ ?_ ?_ | refine sh_negE ?_ | refine sh_notE ?_ | refine sh_andE ?_ ?_ | refine sh_orE ?_ ?_ | refine sh_ifE ?_ ?_ ?_ | refine sh_tupE ?_ | refine sh_lstE ?_ | exact sh_nilA | refine sh_consA ?_ ?_ | refine sh_callE ?_ ?_ | exact sh_lenG | exact sh_tupleG | exact sh_listG | exact sh_absG | exact sh_intG | exact sh_minG | exact sh_maxG | exact sh_sum | exact sh_any | exact sh_all | exact sh_pk_srt | exact sh_pk_in | exact sh_pk_nin | exact sh_dictG | exact sh_reprG | refine sh_sortSet ?_ | exact sh_dict0 | refine sh_disp1 ?_ ?_ | refine sh_disp ?_ | exact shpr_nil | refine shpr_cons ?_ ?_ ?_ | refine sh_slice ?_ ?_ ?_ | exact sh_noP | refine sh_someP ?_ | refine sh_rev ?_ | refine sh_methE ?_ ?_ ?_ ?_ | exact shmo_none | exact shmo_app | exact shmo_pop | exact shmo_dpop | exact shmo_index | refine sh_cmpB ?_ | refine sh_truE ?_ | refine sh_notB ?_ | refine sh_andB ?_ ?_ | refine sh_orB ?_ ?_ | exact sh_yesB | refine sh_lcE ?_ ?_ ?_ ?_ | refine sh_dcE ?_ ?_ ?_ ?_ ?_ | refine sh_genE ?_ ?_ ?_ ?_ ?_ | exact sh_eatAny _ | exact sh_eatAll _ | exact sh_eatSum _ | exact sh_eatTup _ | refine sh_seqIV ?_ | refine sh_enumIV ?_ | refine sh_rng1 ?_ | refine sh_rng2 ?_ | refine sh_listRg ?_ | exact sh_setV _ | refine sh_unpack ?_ | exact sh_nilV | refine sh_consV ?_ ?_ | refine sh_subV ?_ ?_)
theorem sh_m__law_numbers : ShC m__law_numbers := by
  have h_m__law_near := sh_m__law_near
  have h_m__law_round := sh_m__law_round
  unfold m__law_numbers b__law_numbers
  refine sh_runM ?_
  repeat' with_reducible (first | assumption | exact sh_pass | exact sh_break | exact sh_cont | exact sh_retN | refine sh_seqV ?_ ?_ | refine sh_ret ?_ | refine sh_drop ?_ | refine sh_ifV ?_ ?_ ?_ | refine sh_forIV ?_ ?_ ?_ | refine sh_while ?_ ?_ _ | refine sh_asgV ?_ ?_ | refine sh_parV ?_ | refine sh_par3V ?_ | refine sh_augV ?_ | refine sh_delV ?_ ?_ | exact sh_slotE _ | exact sh_valE (fl_int _) | exact sh_valE (fl_bl _) | exact sh_valE (fl_str _) | exact sh_valE fl_non | exact sh_valE fl_near | exact sh_valE fl_side | refine sh_bind2 ?_ ?_ ?_ | exact sh_bin _ | exact sh_cmp _ | exact sh_ixD | refine sh_chain ?_ ?_ ?_ ?_ ?_ | refine sh_negE ?_ | refine sh_notE ?_ | refine sh_andE ?_ ?_ | refine sh_orE ?_ ?_ | refine sh_ifE ?_ ?_ ?_ | refine sh_tupE ?_ | refine sh_lstE ?_ | exact sh_nilA | refine sh_consA ?_ ?_ | refine sh_callE ?_ ?_ | exact sh_lenG | exact sh_tupleG | exact sh_listG | exact sh_absG | exact sh_intG | exact sh_minG | exact sh_maxG | exact sh_sum | exact sh_any | exact sh_all | exact sh_pk_srt | exact sh_pk_in | exact sh_pk_nin | exact sh_dictG | exact sh_reprG | refine sh_sortSet ?_ | exact sh_dict0 | refine sh_disp1 ?_ ?_ | refine sh_disp ?_ | exact shpr_nil | refine shpr_cons ?_ ?_ ?_ | refine sh_slice ?_ ?_ ?_ | exact sh_noP | refine sh_someP ?_ | refine sh_rev ?_ | refine sh_methE ?_ ?_ ?_ ?_ | exact shmo_none | exact shmo_app | exact shmo_pop | exact shmo_dpop | exact shmo_index | refine sh_cmpB ?_ | refine sh_truE ?_ | refine sh_notB ?_ | refine sh_andB ?_ ?_ | refine sh_orB ?_ ?_ | exact sh_yesB | refine sh_lcE ?_ ?_ ?_ ?_ | refine sh_dcE ?_ ?_ ?_ ?_ ?_ | refine sh_genE ?_ ?_ ?_ ?_ ?_ | exact sh_eatAny _ | exact sh_eatAll _ | exact sh_eatSum _ | exact sh_eatTup _ | refine sh_seqIV ?_ | refine sh_enumIV ?_ | refine sh_rng1 ?_ | refine sh_rng2 ?_ | refine sh_listRg ?_ | exact sh_setV _ | refine sh_unpack ?_ | exact sh_nilV | refine sh_consV ?_ ?_ | refine sh_subV ?_ ?_)
theorem sh_m__law_simple_in : ShC m__law_simple_in := by
  have h_m__law_is_simple := sh_m__law_is_simple
  have h_m__law_code := sh_m__law_code
  unfold m__law_simple_in b__law_simple_in
  refine sh_runM ?_
  repeat' with_reducible (first | assumption | exact sh_pass | exact sh_break | exact sh_cont | exact sh_retN | refine sh_seqV ?_ ?_ | refine sh_ret ?_ | refine sh_drop ?_ | refine sh_ifV ?_ ?_ ?_ | refine sh_forIV ?_ ?_ ?_ | refine sh_while ?_ ?_ _ | refine sh_asgV ?_ ?_ | refine sh_parV ?_ | refine sh_par3V ?_ | refine sh_augV ?_ | refine sh_delV ?_ ?_ | exact sh_slotE _ | exact sh_valE (fl_int _) | exact sh_valE (fl_bl _) | exact sh_valE (fl_str _) | exact sh_valE fl_non | exact sh_valE fl_near | exact sh_valE fl_side | refine sh_bind2 ?_ ?_ ?_ | exact sh_bin _ | exact sh_cmp _ | exact sh_ixD | refine sh_chain ?_ ?_ ?_ ?_ ?_ | refine sh_negE ?_ | refine sh_notE ?_ | refine sh_andE ?_ ?_ | refine sh_orE ?_ ?_ | refine sh_ifE ?_ ?_ ?_ | refine sh_tupE ?_ | refine sh_lstE ?_ | exact sh_nilA | refine sh_consA ?_ ?_ | refine sh_callE ?_ ?_ | exact sh_lenG | exact sh_tupleG | exact sh_listG | exact sh_absG | exact sh_intG | exact sh_minG | exact sh_maxG | exact sh_sum | exact sh_any | exact sh_all | exact sh_pk_srt | exact sh_pk_in | exact sh_pk_nin | exact sh_dictG | exact sh_reprG | refine sh_sortSet ?_ | exact sh_dict0 | refine sh_disp1 ?_ ?_ | refine sh_disp ?_ | exact shpr_nil | refine shpr_cons ?_ ?_ ?_ | refine sh_slice ?_ ?_ ?_ | exact sh_noP | refine sh_someP ?_ | refine sh_rev ?_ | refine sh_methE ?_ ?_ ?_ ?_ | exact shmo_none | exact shmo_app | exact shmo_pop | exact shmo_dpop | exact shmo_index | refine sh_cmpB ?_ | refine sh_truE ?_ | refine sh_notB ?_ | refine sh_andB ?_ ?_ | refine sh_orB ?_ ?_ | exact sh_yesB | refine sh_lcE ?_ ?_ ?_ ?_ | refine sh_dcE ?_ ?_ ?_ ?_ ?_ | refine sh_genE ?_ ?_ ?_ ?_ ?_ | exact sh_eatAny _ | exact sh_eatAll _ | exact sh_eatSum _ | exact sh_eatTup _ | refine sh_seqIV ?_ | refine sh_enumIV ?_ | refine sh_rng1 ?_ | refine sh_rng2 ?_ | refine sh_listRg ?_ | exact sh_setV _ | refine sh_unpack ?_ | exact sh_nilV | refine sh_consV ?_ ?_ | refine sh_subV ?_ ?_)
theorem sh_m__law_draw_apart : ShC m__law_draw_apart := by
  have h_m__law_pick := sh_m__law_pick
  have h_m__law_draw_picture := sh_m__law_draw_picture
  unfold m__law_draw_apart b__law_draw_apart
  refine sh_runM ?_
  repeat' with_reducible (first | assumption | exact sh_pass | exact sh_break | exact sh_cont | exact sh_retN | refine sh_seqV ?_ ?_ | refine sh_ret ?_ | refine sh_drop ?_ | refine sh_ifV ?_ ?_ ?_ | refine sh_forIV ?_ ?_ ?_ | refine sh_while ?_ ?_ _ | refine sh_asgV ?_ ?_ | refine sh_parV ?_ | refine sh_par3V ?_ | refine sh_augV ?_ | refine sh_delV ?_ ?_ | exact sh_slotE _ | exact sh_valE (fl_int _) | exact sh_valE (fl_bl _) | exact sh_valE (fl_str _) | exact sh_valE fl_non | exact sh_valE fl_near | exact sh_valE fl_side | refine sh_bind2 ?_ ?_ ?_ | exact sh_bin _ | exact sh_cmp _ | exact sh_ixD | refine sh_chain ?_ ?_ ?_ ?_ ?_ | refine sh_negE ?_ | refine sh_notE ?_ | refine sh_andE ?_ ?_ | refine sh_orE ?_ ?_ | refine sh_ifE ?_ ?_ ?_ | refine sh_tupE ?_ | refine sh_lstE ?_ | exact sh_nilA | refine sh_consA ?_ ?_ | refine sh_callE ?_ ?_ | exact sh_lenG | exact sh_tupleG | exact sh_listG | exact sh_absG | exact sh_intG | exact sh_minG | exact sh_maxG | exact sh_sum | exact sh_any | exact sh_all | exact sh_pk_srt | exact sh_pk_in | exact sh_pk_nin | exact sh_dictG | exact sh_reprG | refine sh_sortSet ?_ | exact sh_dict0 | refine sh_disp1 ?_ ?_ | refine sh_disp ?_ | exact shpr_nil | refine shpr_cons ?_ ?_ ?_ | refine sh_slice ?_ ?_ ?_ | exact sh_noP | refine sh_someP ?_ | refine sh_rev ?_ | refine sh_methE ?_ ?_ ?_ ?_ | exact shmo_none | exact shmo_app | exact shmo_pop | exact shmo_dpop | exact shmo_index | refine sh_cmpB ?_ | refine sh_truE ?_ | refine sh_notB ?_ | refine sh_andB ?_ ?_ | refine sh_orB ?_ ?_ | exact sh_yesB | refine sh_lcE ?_ ?_ ?_ ?_ | refine sh_dcE ?_ ?_ ?_ ?_ ?_ | refine sh_genE ?_ ?_ ?_ ?_ ?_ | exact sh_eatAny _ | exact sh_eatAll _ | exact sh_eatSum _ | exact sh_eatTup _ | refine sh_seqIV ?_ | refine sh_enumIV ?_ | refine sh_rng1 ?_ | refine sh_rng2 ?_ | refine sh_listRg ?_ | exact sh_setV _ | refine sh_unpack ?_ | exact sh_nilV | refine sh_consV ?_ ?_ | refine sh_subV ?_ ?_)
theorem sh_m__law_turned_cell : ShC m__law_turned_cell := by
  unfold m__law_turned_cell b__law_turned_cell
  refine sh_runM ?_
  repeat' with_reducible (first | assumption | exact sh_pass | exact sh_break | exact sh_cont | exact sh_retN | refine sh_seqV ?_ ?_ | refine sh_ret ?_ | refine sh_drop ?_ | refine sh_ifV ?_ ?_ ?_ | refine sh_forIV ?_ ?_ ?_ | refine sh_while ?_ ?_ _ | refine sh_asgV ?_ ?_ | refine sh_parV ?_ | refine sh_par3V ?_ | refine sh_augV ?_ | refine sh_delV ?_ ?_ | exact sh_slotE _ | exact sh_valE (fl_int _) | exact sh_valE (fl_bl _) | exact sh_valE (fl_str _) | exact sh_valE fl_non | exact sh_valE fl_near | exact sh_valE fl_side | refine sh_bind2 ?_ ?_ ?_ | exact sh_bin _ | exact sh_cmp _ | exact sh_ixD | refine sh_chain ?_ ?_ ?_ ?_ ?_ | refine sh_negE ?_ | refine sh_notE ?_ | refine sh_andE ?_ ?_ | refine sh_orE ?_ ?_ | refine sh_ifE ?_ ?_ ?_ | refine sh_tupE ?_ | refine sh_lstE ?_ | exact sh_nilA | refine sh_consA ?_ ?_ | refine sh_callE ?_ ?_ | exact sh_lenG | exact sh_tupleG | exact sh_listG | exact sh_absG | exact sh_intG | exact sh_minG | exact sh_maxG | exact sh_sum | exact sh_any | exact sh_all | exact sh_pk_srt | exact sh_pk_in | exact sh_pk_nin | exact sh_dictG | exact sh_reprG | refine sh_sortSet ?_ | exact sh_dict0 | refine sh_disp1 ?_ ?_ | refine sh_disp ?_ | exact shpr_nil | refine shpr_cons ?_ ?_ ?_ | refine sh_slice ?_ ?_ ?_ | exact sh_noP | refine sh_someP ?_ | refine sh_rev ?_ | refine sh_methE ?_ ?_ ?_ ?_ | exact shmo_none | exact shmo_app | exact shmo_pop | exact shmo_dpop | exact shmo_index | refine sh_cmpB ?_ | refine sh_truE ?_ | refine sh_notB ?_ | refine sh_andB ?_ ?_ | refine sh_orB ?_ ?_ | exact sh_yesB | refine sh_lcE ?_ ?_ ?_ ?_ | refine sh_dcE ?_ ?_ ?_ ?_ ?_ | refine sh_genE ?_ ?_ ?_ ?_ ?_ | exact sh_eatAny _ | exact sh_eatAll _ | exact sh_eatSum _ | exact sh_eatTup _ | refine sh_seqIV ?_ | refine sh_enumIV ?_ | refine sh_rng1 ?_ | refine sh_rng2 ?_ | refine sh_listRg ?_ | exact sh_setV _ | refine sh_unpack ?_ | exact sh_nilV | refine sh_consV ?_ ?_ | refine sh_subV ?_ ?_)
theorem sh_m__law_code_right : ShC m__law_code_right := by
  have h_m__law_numbers := sh_m__law_numbers
  have h_m_code_numbers := sh_m_code_numbers
  have h_m_code_pieces := sh_m_code_pieces
  have h_m__law_runs_of := sh_m__law_runs_of
  have h_m_code_rooms := sh_m_code_rooms
  have h_m_is_simple_code := sh_m_is_simple_code
  have h_m__law_is_simple := sh_m__law_is_simple
  have h_m_cells_of_code := sh_m_cells_of_code
  have h_m__law_round := sh_m__law_round
  unfold m__law_code_right b__law_code_right
  refine sh_runM ?_
  repeat' with_reducible (first | assumption | exact sh_pass | exact sh_break | exact sh_cont | exact sh_retN | refine sh_seqV ?_ ?_ | refine sh_ret ?_ | refine sh_drop ?_ | refine sh_ifV ?_ ?_ ?_ | refine sh_forIV ?_ ?_ ?_ | refine sh_while ?_ ?_ _ | refine sh_asgV ?_ ?_ | refine sh_parV ?_ | refine sh_par3V ?_ | refine sh_augV ?_ | refine sh_delV ?_ ?_ | exact sh_slotE _ | exact sh_valE (fl_int _) | exact sh_valE (fl_bl _) | exact sh_valE (fl_str _) | exact sh_valE fl_non | exact sh_valE fl_near | exact sh_valE fl_side | refine sh_bind2 ?_ ?_ ?_ | exact sh_bin _ | exact sh_cmp _ | exact sh_ixD | refine sh_chain ?_ ?_ ?_ ?_ ?_ | refine sh_negE ?_ | refine sh_notE ?_ | refine sh_andE ?_ ?_ | refine sh_orE ?_ ?_ | refine sh_ifE ?_ ?_ ?_ | refine sh_tupE ?_ | refine sh_lstE ?_ | exact sh_nilA | refine sh_consA ?_ ?_ | refine sh_callE ?_ ?_ | exact sh_lenG | exact sh_tupleG | exact sh_listG | exact sh_absG | exact sh_intG | exact sh_minG | exact sh_maxG | exact sh_sum | exact sh_any | exact sh_all | exact sh_pk_srt | exact sh_pk_in | exact sh_pk_nin | exact sh_dictG | exact sh_reprG | refine sh_sortSet ?_ | exact sh_dict0 | refine sh_disp1 ?_ ?_ | refine sh_disp ?_ | exact shpr_nil | refine shpr_cons ?_ ?_ ?_ | refine sh_slice ?_ ?_ ?_ | exact sh_noP | refine sh_someP ?_ | refine sh_rev ?_ | refine sh_methE ?_ ?_ ?_ ?_ | exact shmo_none | exact shmo_app | exact shmo_pop | exact shmo_dpop | exact shmo_index | refine sh_cmpB ?_ | refine sh_truE ?_ | refine sh_notB ?_ | refine sh_andB ?_ ?_ | refine sh_orB ?_ ?_ | exact sh_yesB | refine sh_lcE ?_ ?_ ?_ ?_ | refine sh_dcE ?_ ?_ ?_ ?_ ?_ | refine sh_genE ?_ ?_ ?_ ?_ ?_ | exact sh_eatAny _ | exact sh_eatAll _ | exact sh_eatSum _ | exact sh_eatTup _ | refine sh_seqIV ?_ | refine sh_enumIV ?_ | refine sh_rng1 ?_ | refine sh_rng2 ?_ | refine sh_listRg ?_ | exact sh_setV _ | refine sh_unpack ?_ | exact sh_nilV | refine sh_consV ?_ ?_ | refine sh_subV ?_ ?_)
theorem sh_m_law : ShC m_law := by
  have h_m__law_open_cells := sh_m__law_open_cells
  have h_m__law_any_order := sh_m__law_any_order
  have h_m__law_code_right := sh_m__law_code_right
  have h_m_simple_codes := sh_m_simple_codes
  have h_m__law_is_simple := sh_m__law_is_simple
  have h_m__law_pick := sh_m__law_pick
  have h_m__law_turned_cell := sh_m__law_turned_cell
  have h_m__law_round := sh_m__law_round
  have h_m_turned_code := sh_m_turned_code
  have h_m__law_code := sh_m__law_code
  have h_m__law_draw_apart := sh_m__law_draw_apart
  have h_m__law_frame := sh_m__law_frame
  have h_m_posed := sh_m_posed
  have h_m_code_at := sh_m_code_at
  have h_m_is_simple := sh_m_is_simple
  have h_m__law_simple_in := sh_m__law_simple_in
  have h_m_simple_cells := sh_m_simple_cells
  unfold m_law b_law
  refine sh_runM ?_
  repeat' with_reducible (first | assumption | exact sh_pass | exact sh_break | exact sh_cont | exact sh_retN | refine sh_seqV ?_ ?_ | refine sh_ret ?_ | refine sh_drop ?_ | refine sh_ifV ?_ ?_ ?_ | refine sh_forIV ?_ ?_ ?_ | refine sh_while ?_ ?_ _ | refine sh_asgV ?_ ?_ | refine sh_parV ?_ | refine sh_par3V ?_ | refine sh_augV ?_ | refine sh_delV ?_ ?_ | exact sh_slotE _ | exact sh_valE (fl_int _) | exact sh_valE (fl_bl _) | exact sh_valE (fl_str _) | exact sh_valE fl_non | exact sh_valE fl_near | exact sh_valE fl_side | refine sh_bind2 ?_ ?_ ?_ | exact sh_bin _ | exact sh_cmp _ | exact sh_ixD | refine sh_chain ?_ ?_ ?_ ?_ ?_ | refine sh_negE ?_ | refine sh_notE ?_ | refine sh_andE ?_ ?_ | refine sh_orE ?_ ?_ | refine sh_ifE ?_ ?_ ?_ | refine sh_tupE ?_ | refine sh_lstE ?_ | exact sh_nilA | refine sh_consA ?_ ?_ | refine sh_callE ?_ ?_ | exact sh_lenG | exact sh_tupleG | exact sh_listG | exact sh_absG | exact sh_intG | exact sh_minG | exact sh_maxG | exact sh_sum | exact sh_any | exact sh_all | exact sh_pk_srt | exact sh_pk_in | exact sh_pk_nin | exact sh_dictG | exact sh_reprG | refine sh_sortSet ?_ | exact sh_dict0 | refine sh_disp1 ?_ ?_ | refine sh_disp ?_ | exact shpr_nil | refine shpr_cons ?_ ?_ ?_ | refine sh_slice ?_ ?_ ?_ | exact sh_noP | refine sh_someP ?_ | refine sh_rev ?_ | refine sh_methE ?_ ?_ ?_ ?_ | exact shmo_none | exact shmo_app | exact shmo_pop | exact shmo_dpop | exact shmo_index | refine sh_cmpB ?_ | refine sh_truE ?_ | refine sh_notB ?_ | refine sh_andB ?_ ?_ | refine sh_orB ?_ ?_ | exact sh_yesB | refine sh_lcE ?_ ?_ ?_ ?_ | refine sh_dcE ?_ ?_ ?_ ?_ ?_ | refine sh_genE ?_ ?_ ?_ ?_ ?_ | exact sh_eatAny _ | exact sh_eatAll _ | exact sh_eatSum _ | exact sh_eatTup _ | refine sh_seqIV ?_ | refine sh_enumIV ?_ | refine sh_rng1 ?_ | refine sh_rng2 ?_ | refine sh_listRg ?_ | exact sh_setV _ | refine sh_unpack ?_ | exact sh_nilV | refine sh_consV ?_ ?_ | refine sh_subV ?_ ?_)
end RF
end

/-! ## M05 -/
section
set_option maxRecDepth 100000
namespace RF
open PySem PySem.W L2
def nearC (c : Cell) : List Cell := [(c.1 + 1, c.2), (c.1 + 1, c.2 + 1), (c.1, c.2 + 1), (c.1 - 1, c.2 + 1), (c.1 - 1, c.2), (c.1 - 1, c.2 - 1), (c.1, c.2 - 1), (c.1 + 1, c.2 - 1)]
def sidesC (c : Cell) : List Cell := [(c.1 + 1, c.2), (c.1, c.2 + 1), (c.1 - 1, c.2), (c.1, c.2 - 1)]
theorem near_ok (c : Cell) (S : Store) : W (m__law_near [cD c] S) (Lst (csD (nearC c)) S) := by
  rw [m__law_near, w_runM]
  simp [b__law_near, most]
  refine w_add_lst (get_ap0 _ _ _) (get_ap1 _ _ _ _) (by simp [most]) ?_
  exact ⟨_, rfl, by simp only [List.append_assoc]; exact List.prefix_append _ _, by simp, At.new _ _⟩
theorem sides_ok (c : Cell) (S : Store) : W (m__law_sides [cD c] S) (Lst (csD (sidesC c)) S) := by
  rw [m__law_sides, w_runM]
  simp [b__law_sides, most]
  exact ⟨_, rfl, List.prefix_append _ _, Nat.le_refl _, At.new _ _⟩
theorem cell_table_ok (l : List Cell) (S : Store) (hl : l.length < 400) : W (m_cell_table [.tup (csD l)] S) (Dct (tab (uniq l) (.bl true)) S) := by
  rw [m_cell_table, w_runM]
  simp only [b_cell_table, w_seqV, w_retV, List.length_cons, List.length_nil, true_and]
  refine (dc_tab l (.bl true) hl (by simp [most]; omega) ?_ ?_).imp fun p q => by simpa using q
  · simp [srcD, Pre1.refl]
    exact items_tup _ _
  · intro i c hc S' p
    simp [wipeD, Pre1.refl]
/-- the code so far -/
def cuN (ns l : List Cell) : Nat → Int
  | 0 => 0
  | i + 1 => cuN ns l i + (if ns.getD i (0, 0) ∈ l then 2 ^ i else 0)
def codeL (l : List Cell) (c : Cell) : Int := cuN (nearC c) l 8
def nearS : List Cell := [(1, 0), (1, 1), (0, 1), (-1, 1), (-1, 0), (-1, -1), (0, -1), (1, -1)]
theorem near_steps : c_NEAR_STEPS = .tup (csD nearS) := rfl
theorem near_at (c : Cell) : ∀ {i : Nat} {s : Cell}, nearS[i]? = some s → (nearC c).getD i (0, 0) = (c.1 + s.1, c.2 + s.2) := by
  intro i s h
  have hi : i < 8 := (List.getElem?_eq_some_iff.mp h).1
  match i, hi with
  | 0, _ | 1, _ | 2, _ | 3, _ | 4, _ | 5, _ | 6, _ | 7, _ => cases h; simp [nearC]; try omega
theorem code_in_ok (l : List Cell) (c : Cell) {n : Nat} {v : D} {S : Store} (h : At S n (.dct (tab (uniq l) v))) : W (m_code_in [.loc n, cD c] S) (Val (.int (codeL l c)) S) := by
  rw [m_code_in, w_runM]
  simp [b_code_in, near_steps, srcD, PK0, cmpD]
  refine for_rule (xs := csD nearS) (fun i σ S' => S' = S ∧ ∃ u v, σ = [some (.loc n), some (cD c), some (.int c.1), some (.int c.2), some (.int (cuN (nearC c) l i)), some (.int (2 ^ i)), u, v, none]) LF (by simp [nearS, LF]) ?_ ?_ ?_ ?_
  · rintro i σ S' ⟨rfl, _⟩; rfl
  · rintro i d σ S' hd ⟨rfl, u, v, rfl⟩
    rw [List.getElem?_map] at hd
    cases hs : nearS[i]? with
    | none => rw [hs] at hd; cases hd
    | some s =>
      rw [hs] at hd
      cases hd
      have en := near_at c hs
      simp [most]
      refine .of (in_tab false (c.1 + s.1, c.2 + s.2) h) ?_
      simp only [blK_bl, uniq_mem, flipB, decide_eq_true_eq, decide_eq_false_iff_not, cuN, en, true_and, if_false, Bool.false_eq_true]
      refine ⟨fun hm => ⟨by simp [hm], by rw [Int.pow_succ]; omega⟩, fun hm => ⟨by simp [hm], by rw [Int.pow_succ]; omega⟩⟩
  · rintro σ S' ⟨rfl, u, v, rfl⟩
    simp [csD, nearS]
    exact ⟨rfl, .refl _⟩
  · exact ⟨rfl, none, none, by simp [cuN]⟩

theorem code_at_ok (l : List Cell) (c : Cell) (S : Store) (hl : l.length < 400) : W (m_code_at [.tup (csD l), cD c] S) (Val (.int (codeL l c)) S) := by
  rw [m_code_at, w_runM]
  simp [b_code_at]
  refine (cell_table_ok l S hl).imp ?_
  rintro ⟨d, S1⟩ ⟨n, rfl, p1, _, h⟩
  refine (code_in_ok l c h).imp ?_
  rintro ⟨d, S2⟩ ⟨e, p2⟩
  exact ⟨by simpa using e, p1.trans p2⟩
theorem dict_cells {S : Store} {n : Nat} {v : D} {l : List Cell} (h : At S n (.lst (l.map fun c => .tup [cD c, v]))) (hl : l.length ≤ most) : dictG [.loc n] S = some (.loc (List.length S), S ++ [.dct (tab (uniq l) v)]) := by
  have e1 : pairsD (l.map fun c => .tup [cD c, v]) = some (l.map fun c => (cD c, v)) := by
    clear h hl
    induction l with
    | nil => rfl
    | cons a r ih => simp only [List.map_cons, pairsD, ih]
  have e2 : ((l.map fun c => (cD c, v)).all fun p => (tkD p.1).isSome) = true := by
    simp [tk_cD]
  simp only [dictG, lstD, h, e1, List.length_map, hl, if_true, e2, tab_all]
/-- cells as the law has them: a tuple or a list -/
def Cells (S : Store) (d : D) (l : List Cell) : Prop := d = .tup (csD l) ∨ ∃ n, d = .loc n ∧ At S n (.lst (csD l))
theorem Cells.pre {S S' : Store} {d : D} {l : List Cell} (h : Cells S d l) (p : Pre1 S S') : Cells S' d l := by
  rcases h with h | ⟨n, e, h⟩
  · exact .inl h
  · exact .inr ⟨n, e, h.pre p⟩
theorem Cells.src {S : Store} {d : D} {l : List Cell} (h : Cells S d l) : ∃ src, srcD S d = some src ∧ Items src S (csD l) := by
  rcases h with rfl | ⟨n, rfl, h⟩
  · exact ⟨_, rfl, items_tup _ _⟩
  · exact ⟨_, srcD_lst h, items_lst h⟩
/-- dict([(c, 0) for c in cells]) -/
theorem law_dict {S : Store} {σ : Slots} {d : D} {l : List Cell} {k i : Nat} (hd : Cells S d l) (hk : σ[k]? = some (some d)) (hi : i < List.length σ) (hl : l.length < 400) : W (callE dictG (consA (lcE (seqIV (slotE k)) (setV i) yesB (tupE (consA (slotE i) (consA (valE (.int 0)) nilA))) [i] LF) nilA) σ S) (Dct (tab (uniq l) (.int 0)) S) := by
  simp only [w_callE, w_consA, w_nilA]
  obtain ⟨src, h1, h2⟩ := hd.src
  refine (lc_map (csD l) (fun c => .tup [c, .int 0]) (by simpa [LF] using hl) (by simp [most]; omega) ?_ ?_).imp ?_
  · simp [hk, h1, Pre1.refl]
    exact h2
  · intro j x hx S' p
    have : (List.set (wipeD σ [i]) i (some x))[i]? = some (some x) := by
      rw [List.getElem?_set_self]
      simpa [wipeD] using hi
    simp [this, most, Pre1.refl]
  · rintro ⟨d1, S1⟩ ⟨n, rfl, p1, hn, h⟩
    dsimp only at p1 h ⊢
    rw [List.map_map] at h
    refine .of (dict_cells h (by simp [most]; omega)) ⟨_, rfl, p1.app _, p1.len, At.new _ _⟩
theorem law_code_ok (l : List Cell) (c : Cell) {d : D} {S : Store} (hd : Cells S d l) (hl : l.length < 400) : W (m__law_code [d, cD c] S) (Val (.int (codeL l c)) S) := by
  rw [m__law_code, w_runM]
  simp only [b__law_code, w_seqV, w_par3V, w_consA, w_nilA, w_val]
  refine ⟨rfl, (law_dict (l := l) hd rfl (by simp) hl).imp ?_⟩
  rintro ⟨d1, S1⟩ ⟨n, rfl, p1, hn, h⟩
  simp
  refine (near_ok c S1).imp ?_
  rintro ⟨d2, S2⟩ ⟨m, rfl, p2, hm, h2⟩
  have h3 := h.pre p2
  simp [srcD_lst h2]
  refine for_rule (xs := csD (nearC c)) (fun i σ S' => S' = S2 ∧ ∃ u, σ = [some d, some (cD c), some (.loc n), some (.int (cuN (nearC c) l i)), some (.int (2 ^ i)), u, none, none, none]) LF (by simp [nearC, LF]) ?_ ?_ ?_ ?_
  · rintro i σ S' ⟨rfl, _⟩; exact items_lst h2 S' (.refl _) i
  · rintro i x σ S' hx ⟨rfl, u, rfl⟩
    rw [List.getElem?_map] at hx
    cases hs : (nearC c)[i]? with
    | none => rw [hs] at hx; cases hx
    | some s =>
      rw [hs] at hx
      cases hx
      have en : (nearC c).getD i (0, 0) = s := by rw [List.getD_eq_getElem?_getD, hs]; rfl
      simp [PK0, cmpD]
      refine .of (in_tab false s h3) ?_
      simp only [blK_bl, uniq_mem, flipB, decide_eq_true_eq, decide_eq_false_iff_not, cuN, en, true_and, if_false, Bool.false_eq_true]
      refine ⟨fun hm => ⟨by simp [hm], by rw [Int.pow_succ]⟩, fun hm => ⟨by simp [hm], by rw [Int.pow_succ]⟩⟩
  · rintro σ S' ⟨rfl, u, rfl⟩
    simp [csD, nearC]
    exact ⟨rfl, p1.trans p2⟩
  · exact ⟨rfl, none, by simp [cuN]⟩
end RF

end

/-! ## M05b -/
section
set_option maxRecDepth 100000
namespace RF
open PySem PySem.W L2
def rowC (c : Cell) : List Int := [c.1, c.2]
theorem cD_row (c : Cell) : cD c = tupI (rowC c) := rfl
theorem csD_rows (l : List Cell) : csD l = (l.map rowC).map tupI := by rw [List.map_map]; rfl
theorem rowC_inj {a b : Cell} (h : rowC a = rowC b) : a = b := by
  simp only [rowC, List.cons.injEq, and_true] at h
  exact Prod.ext h.1 h.2
def leC (a b : Cell) : Bool := !(decide (b.1 < a.1) || (decide (b.1 = a.1) && decide (b.2 < a.2)))
theorem leI_row (a b : Cell) : leI (rowC a) (rowC b) = leC a b := by
  simp [leI, ltI, rowC, leC]
def insC (a : Cell) : List Cell → List Cell
  | [] => [a]
  | b :: r => if leC a b then a :: b :: r else b :: insC a r
def sortC : List Cell → List Cell
  | [] => []
  | a :: r => insC a (sortC r)
theorem insI_row (a : Cell) : ∀ l : List Cell, insI (rowC a) (l.map rowC) = (insC a l).map rowC
  | [] => rfl
  | b :: r => by
    simp only [List.map_cons, insI, insC, leI_row]
    split
    · rfl
    · rw [insI_row a r]; rfl
theorem isortI_row : ∀ l : List Cell, isortI (l.map rowC) = (sortC l).map rowC
  | [] => rfl
  | a :: r => by
    show insI (rowC a) (isortI (r.map rowC)) = _
    rw [isortI_row r, insI_row]; rfl
theorem rows_inj : ∀ {l l' : List Cell}, l.map rowC = l'.map rowC → l = l'
  | [], [], _ => rfl
  | [], _ :: _, h => by cases h
  | _ :: _, [], h => by cases h
  | a :: r, b :: s, h => by
    simp only [List.map_cons, List.cons.injEq] at h
    rw [rowC_inj h.1, rows_inj h.2]
theorem sortC_of_perm {l l' : List Cell} (h : l.Perm l') : sortC l = sortC l' := by
  apply rows_inj
  rw [← isortI_row, ← isortI_row]
  exact isortI_of_perm (h.map _)
theorem insC_perm (a : Cell) : ∀ l, (insC a l).Perm (a :: l)
  | [] => .refl _
  | b :: r => by
    unfold insC
    split
    · exact .refl _
    · exact ((insC_perm a r).cons b).trans (.swap a b r)
theorem sortC_perm : ∀ l, (sortC l).Perm l
  | [] => .refl _
  | a :: r => (insC_perm a _).trans ((sortC_perm r).cons a)
theorem setSort_row {l : List Cell} (h : l.Nodup) : setSort (l.map rowC) = (sortC l).map rowC := by
  rw [← isortI_row]
  exact (setSort_of (h.map (f := rowC) fun a b ne e => ne (rowC_inj e)) fun x => Iff.rfl).symm
theorem setG_cells {S : Store} {n : Nat} {l : List Cell} (h : At S n (.lst (csD l))) (hl : l.length < 64) : setG [.loc n] S = some (l.map rowC) := by
  have e : ((l.map rowC).all fun r => !r.isEmpty) = true := by
    rw [List.all_map]; simp [rowC]
  simp only [setG, lstD, h, csD_rows, rowsI_rows, List.length_map, hl, if_true, e]
theorem picture_of_ok {S : Store} {n : Nat} {l : List Cell} (h : At S n (.lst (csD l))) (hl : l.length < 64) (hd : l.Nodup) : W (m_picture_of [.loc n] S) (Val (.tup (csD (sortC l))) S) := by
  rw [m_picture_of, w_runM]
  simp [b_picture_of, sortSetE, slotE]
  rw [setG_cells h hl]
  simp [tupleG, seqD, setSort_row hd]
  rw [← List.map_map, ← csD_rows]
  exact ⟨rfl, List.prefix_append _ _⟩
theorem sorted_ok {S : Store} {n : Nat} {l : List Cell} (h : At S n (.lst (csD l))) (hl : l.length ≤ most) : SRT [.loc n] S = some (.loc (List.length S), S ++ [.lst (csD (sortC l))]) := by
  have h' : lstD S (.loc n) = some ((l.map rowC).map tupI) := by simp only [lstD, h, csD_rows]
  rw [srt_rows h' (by simpa using hl) (fun r hr => by obtain ⟨c, _, rfl⟩ := List.mem_map.mp hr; simp [rowC]), isortI_row, ← csD_rows]
def mirC (c : Cell) : Cell := (-c.1, c.2)
def rotC (c : Cell) : Cell := (-c.2, c.1)
def rotN : Nat → Cell → Cell
  | 0, c => c
  | n + 1, c => rotC (rotN n c)
def turnC (t : Nat) (c : Cell) : Cell := if t < 4 then rotN t c else rotN (t - 4) (mirC c)
theorem mirC_inj {a b : Cell} (h : mirC a = mirC b) : a = b := by
  simp only [mirC, Prod.mk.injEq, Int.neg_inj] at h
  exact Prod.ext h.1 h.2
theorem rotC_inj {a b : Cell} (h : rotC a = rotC b) : a = b := by
  simp only [rotC, Prod.mk.injEq, Int.neg_inj] at h
  exact Prod.ext h.2 h.1
theorem rotN_inj : ∀ {n : Nat} {a b : Cell}, rotN n a = rotN n b → a = b
  | 0, _, _, h => h
  | n + 1, _, _, h => rotN_inj (rotC_inj h)
theorem turnC_inj {t : Nat} {a b : Cell} (h : turnC t a = turnC t b) : a = b := by
  unfold turnC at h
  split at h
  · exact rotN_inj h
  · exact mirC_inj (rotN_inj h)
theorem nodup_map {f : Cell → Cell} (hf : ∀ {a b}, f a = f b → a = b) {l : List Cell} (h : l.Nodup) : (l.map f).Nodup := h.map (f := f) fun a b ne e => ne (hf e)
theorem mirrored_ok {l : List Cell} (S : Store) (hl : l.length < 64) (hd : l.Nodup) : W (m_mirrored [.tup (csD l)] S) (Val (.tup (csD (sortC (l.map mirC)))) S) := by
  rw [m_mirrored, w_runM]
  simp only [b_mirrored, w_seqV, w_retV, w_callE, w_consA, w_nilA]
  refine ⟨rfl, (lc_map (csD l) (fun d => match d with | .tup [.int x, .int y] => .tup [.int (-x), .int y] | d => d) (by simp [LF]; omega) (by simp [most]; omega) ?_ ?_).imp ?_⟩
  · simp [srcD, Pre1.refl]; exact items_tup _ _
  · intro i x hx S' p
    rw [List.getElem?_map] at hx
    cases hs : l[i]? with
    | none => rw [hs] at hx; cases hx
    | some c =>
      rw [hs] at hx
      cases hx
      simp [wipeD, most, Pre1.refl]
  · rintro ⟨d, S1⟩ ⟨n, rfl, p1, _, h⟩
    dsimp only at p1 h ⊢
    have e : (csD l).map (fun d => match d with | .tup [.int x, .int y] => .tup [.int (-x), .int y] | d => d) = csD (l.map mirC) := by
      rw [List.map_map, csD, List.map_map]; rfl
    rw [e] at h
    refine (picture_of_ok h (by simpa using hl) (nodup_map mirC_inj hd)).imp ?_
    rintro ⟨d, S2⟩ ⟨e, p2⟩
    simp only at e p2
    subst e
    simp
    exact ⟨rfl, p1.trans p2⟩
theorem quarter_ok {l : List Cell} (k : Nat) (S : Store) (hl : l.length < 64) (hd : l.Nodup) : W (m_quarter_turned [.tup (csD l), .int k] S) (Val (.tup (csD (sortC (l.map (rotN (k % 4)))))) S) := by
  rw [m_quarter_turned, w_runM]
  simp [b_quarter_turned, listG, seqD]
  refine ⟨by simp only [rg62]; rw [Int.fmod_eq_emod_of_nonneg _ (by omega)]; simp; omega, ?_⟩
  have ek : (Int.fmod (k : Int) 4).toNat = k % 4 := by rw [Int.fmod_eq_emod_of_nonneg _ (by omega)]; omega
  rw [ek]
  have er : (rgL 0 (k % 4)).length = k % 4 := by simp [rgL]
  refine for_rule (xs := rgL 0 (k % 4)) (fun i σ S' => i ≤ k % 4 ∧ Pre1 S S' ∧ ∃ n u a b, At S' n (.lst (csD (l.map (rotN i)))) ∧ σ = [some (.tup (csD l)), some (.int k), some (.loc n), u, none, none, none, a, b]) LF (by rw [er]; simp [LF]; omega) ?_ ?_ ?_ ?_
  · rintro i σ S' ⟨_, p, _⟩; exact items_rng 0 _ S' S' (.refl _) i
  · rintro i x σ S' hx ⟨hi, p, n, u, a, b, h, rfl⟩
    have hlt := (List.getElem?_eq_some_iff.mp hx).1
    rw [er] at hlt
    simp only [w_setV, w_seqV, w_asgV]
    refine (lc_map (csD (l.map (rotN i))) (fun d => match d with | .tup [.int x, .int y] => .tup [.int (-y), .int x] | d => d) (by simp [LF]; omega) (by simp [most]; omega) ?_ ?_).imp ?_
    · simp [srcD_lst h, Pre1.refl, -List.map_map]; exact items_lst h
    · intro j x hx S' p
      rw [List.getElem?_map] at hx
      cases hs : (l.map (rotN i))[j]? with
      | none => rw [hs] at hx; cases hx
      | some c =>
        rw [hs] at hx
        cases hx
        simp [wipeD, most, Pre1.refl]
    · rintro ⟨d, S1⟩ ⟨m, rfl, p1, _, h1⟩
      simp [-List.map_map]
      refine ⟨hlt, p.trans p1, ?_⟩
      have e : (csD (l.map (rotN i))).map (fun d => match d with | .tup [.int x, .int y] => .tup [.int (-y), .int x] | d => d) = csD (l.map (rotN (i + 1))) := by
        rw [List.map_map, List.map_map, csD, List.map_map]; rfl
      rw [← e]; exact h1
  · rintro σ S' ⟨_, p, n, u, a, b, h, rfl⟩
    rw [er] at h
    simp
    refine (picture_of_ok h (by simpa using hl) (nodup_map rotN_inj hd)).imp ?_
    rintro ⟨d, S2⟩ ⟨e, p2⟩
    simp only at e p2
    subst e
    exact ⟨rfl, p.trans p2⟩
  · refine ⟨by omega, List.prefix_append _ _, _, none, none, none, ?_, rfl⟩
    have : l.map (rotN 0) = l := List.map_id l
    rw [this]; exact At.new _ _
theorem posed_ok {l : List Cell} (t : Nat) (ht : t < 8) (S : Store) (hl : l.length < 64) (hd : l.Nodup) : W (m_posed [.tup (csD l), .int t] S) (Val (.tup (csD (sortC (l.map (turnC t))))) S) := by
  rw [m_posed, w_runM]
  simp [b_posed]
  refine ⟨fun h4 => ?_, fun h4 => ?_⟩
  · refine (mirrored_ok S hl hd).imp ?_
    rintro ⟨d, S1⟩ ⟨e, p1⟩
    simp only at e p1
    subst e
    simp
    have pm := sortC_perm (l.map mirC)
    refine (quarter_ok t S1 (by rw [pm.length_eq]; simpa using hl) (pm.nodup_iff.mpr (nodup_map mirC_inj hd))).imp ?_
    rintro ⟨d, S2⟩ ⟨e, p2⟩
    simp only at e p2
    subst e
    refine ⟨?_, p1.trans p2⟩
    simp
    have : l.map (turnC t) = (l.map mirC).map (rotN (t % 4)) := by
      rw [List.map_map]
      apply List.map_congr_left
      intro c _
      have : t % 4 = t - 4 := by omega
      simp [turnC, this]; omega
    rw [this]
    exact congrArg csD (sortC_of_perm (pm.map _))
  · refine (quarter_ok t S hl hd).imp ?_
    rintro ⟨d, S2⟩ ⟨e, p2⟩
    simp only at e p2
    subst e
    refine ⟨?_, p2⟩
    simp
    have h5 : t < 4 := by omega
    have : l.map (turnC t) = l.map (rotN (t % 4)) := by
      apply List.map_congr_left
      intro c _
      have : t % 4 = t := by omega
      simp [turnC, this, h5]
    rw [this]
end RF

end

/-! ## M05c -/
section
set_option maxRecDepth 100000
namespace RF
open PySem PySem.W L2
theorem turned_ok (t : Nat) (ht : t < 8) (c : Cell) (S : Store) : W (m__law_turned_cell [cD c, .int t] S) (Val (cD (turnC t c)) S) := by
  rw [m__law_turned_cell, w_runM]
  simp [b__law_turned_cell]
  have main : ∀ (m : Nat) (hm : m < 8) (c' : Cell) (hc : rotN m c' = turnC t c), W (forV (.rng 0 m) (setV 4) (seqV (parV 2 3 (consA (bind2 (binD .Sub) (valE (.int 0)) (slotE 3)) (consA (slotE 2) nilA))) passV) LF 0 [some (.tup [.int c.1, .int c.2]), some (.int t), some (.int c'.1), some (.int c'.2), none, none] S)
      (seqK (seqV (retV (tupE (consA (slotE 2) (consA (slotE 3) nilA)))) passV) (retK (Val (cD (turnC t c)) S))) := by
    intro m hm c' hc
    have er : (rgL 0 m).length = m := by simp [rgL]
    refine for_rule (xs := rgL 0 m) (fun i σ S' => S' = S ∧ ∃ u, σ = [some (.tup [.int c.1, .int c.2]), some (.int t), some (.int (rotN i c').1), some (.int (rotN i c').2), u, none]) LF (by rw [er]; simp [LF]; omega) ?_ ?_ ?_ ?_
    · rintro i σ S' ⟨rfl, _⟩; exact items_rng 0 _ S' S' (.refl _) i
    · rintro i x σ S' hx ⟨rfl, u, rfl⟩
      simp [rotN, rotC]
    · rintro σ S' ⟨rfl, u, rfl⟩
      rw [er]
      simp [most, hc]
      exact ⟨rfl, .refl _⟩
    · exact ⟨rfl, none, rfl⟩
  refine ⟨fun h4 => ⟨fun h => absurd h (by omega), fun _ => ⟨by simp [rg62]; omega, ?_⟩⟩, fun h4 => ⟨fun _ => ⟨by simp [rg62]; omega, ?_⟩, fun h => absurd h (by omega)⟩⟩
  · have e : ((t : Int) - 4).toNat = t - 4 := by omega
    have := main (t - 4) (by omega) (mirC c) (by simp [turnC]; omega)
    rw [e]
    exact this
  · have := main t ht c (by simp [turnC]; omega)
    exact this
theorem truD_bl (S : Store) (b : Bool) : truD S (.bl b) = some b := rfl
/-- what is said of codes: told later by reckoning -/
structure Codes : Prop where
  simp : ∀ c : Int, 0 ≤ c → c < 256 → ∃ b : Bool, ∀ S, W (m_is_simple_code [.int c] S) (Val (.bl b) S) ∧ W (m__law_is_simple [.int c] S) (Val (.bl b) S)
theorem cuN_range (ns l : List Cell) : ∀ i, 0 ≤ cuN ns l i ∧ cuN ns l i < 2 ^ i
  | 0 => ⟨Int.le_refl _, by simp [cuN]⟩
  | i + 1 => by
    obtain ⟨h1, h2⟩ := cuN_range ns l i
    have h3 : (0 : Int) < 2 ^ i := Int.pow_pos (by omega)
    unfold cuN
    rw [Int.pow_succ]
    split <;> omega
theorem codeL_range (l : List Cell) (c : Cell) : 0 ≤ codeL l c ∧ codeL l c < 256 := cuN_range _ _ 8
def simI (c : Int) : Bool := match m_is_simple_code [.int c] [] with
  | some (.bl b, _) => b
  | _ => false
def SimOk : Prop := ∀ c : Int, 0 ≤ c → c < 256 → ∀ S, W (m_is_simple_code [.int c] S) (Val (.bl (simI c)) S) ∧ W (m__law_is_simple [.int c] S) (Val (.bl (simI c)) S)
theorem is_simple_in_ok (H : SimOk) (l : List Cell) (c : Cell) {n : Nat} {v : D} {S : Store} (h : At S n (.dct (tab (uniq l) v))) : W (m_is_simple_in [.loc n, cD c] S) (Val (.bl (simI (codeL l c))) S) := by
  rw [m_is_simple_in, w_runM]
  simp [b_is_simple_in]
  refine (code_in_ok l c h).imp ?_
  rintro ⟨d, S1⟩ ⟨e, p1⟩
  simp only at e p1
  subst e
  obtain ⟨r1, r2⟩ := codeL_range l c
  refine (H _ r1 r2 S1).1.imp ?_
  rintro ⟨d, S2⟩ ⟨e, p2⟩
  simp only at e p2
  subst e
  exact ⟨rfl, p1.trans p2⟩
def simL (l : List Cell) (c : Cell) : Bool := decide (c ∈ l) && simI (codeL l c)
theorem is_simple_ok (H : SimOk) (l : List Cell) (c : Cell) (S : Store) (hl : l.length < 400) : W (m_is_simple [.tup (csD l), cD c] S) (Val (.bl (simL l c)) S) := by
  rw [m_is_simple, w_runM]
  simp [b_is_simple]
  refine (cell_table_ok l S hl).imp ?_
  rintro ⟨d, S1⟩ ⟨n, rfl, p1, _, h⟩
  dsimp only at p1 h
  simp [PK0, cmpD]
  refine .of (in_tab false c h) ?_
  simp [flipB, uniq_mem]
  refine ⟨fun hm => ?_, fun hm => ⟨by simp [simL, hm], p1⟩⟩
  refine (is_simple_in_ok H l c h).imp ?_
  rintro ⟨d, S2⟩ ⟨e, p2⟩
  simp only at e p2
  subst e
  exact ⟨by simp [simL, hm], p1.trans p2⟩
theorem simple_in_ok (H : SimOk) (l : List Cell) (c : Cell) (S : Store) (hl : l.length < 400) : W (m__law_simple_in [.tup (csD l), cD c] S) (Val (.bl (simL l c)) S) := by
  rw [m__law_simple_in, w_runM]
  simp [b__law_simple_in, PK0, cmpD]
  refine .of (in_tup_en (α := Cell) (by decide) false c l S) ?_
  simp [flipB]
  refine ⟨fun hm => ?_, fun hm => ⟨by simp [simL, hm], .refl _⟩⟩
  refine (law_code_ok l c (.inl rfl) hl).imp ?_
  rintro ⟨d, S1⟩ ⟨e, p1⟩
  simp only at e p1
  subst e
  obtain ⟨r1, r2⟩ := codeL_range l c
  refine (H _ r1 r2 S1).2.imp ?_
  rintro ⟨d, S2⟩ ⟨e, p2⟩
  simp only at e p2
  subst e
  exact ⟨by simp [simL, hm], p1.trans p2⟩
end RF

end

/-! ## M05d -/
section
set_option maxRecDepth 100000
namespace RF
open PySem PySem.W L2
/-- tuple(.. for .. in .. if ..) that changes nothing -/
theorem gt_pure {src : Src} {g : GV} {tt : BV} {fe : EV} {n : Nat} {σ : Slots} {S S0 : Store} (xs : List D) (f : D → Option D) (J : Slots → Prop) (hn : xs.length < n) (hm : xs.length < most) (p0 : Pre1 S0 S)
    (it : Items src S xs) (hJ : J σ)
    (hstep : ∀ (i : Nat) (x : D), xs[i]? = some x → ∀ σ S', J σ → Pre1 S S' → W (g x σ S') fun p => J p.1 ∧ W (tt p.1 p.2) fun r => match f x with
      | none => r.1 = false ∧ Pre1 S' r.2
      | some y => r.1 = true ∧ W (fe p.1 r.2) fun q => q.1 = y ∧ Pre1 S' q.2) : W (eatTup n ⟨src, g, tt, fe, n⟩ σ S) (Val (.tup (xs.filterMap f)) S0) := by
  have pull : ∀ (m i : Nat) (σ : Slots) (S' : Store), i ≤ xs.length → xs.length < m + i → J σ → Pre1 S S' → W (pullV src g tt fe m i σ S') fun p => Pre1 S p.2 ∧ match p.1 with
      | none => (xs.drop i).filterMap f = []
      | some (y, i', σ') => i < i' ∧ i' ≤ xs.length ∧ J σ' ∧ (xs.drop i).filterMap f = y :: (xs.drop i').filterMap f := by
    intro m
    induction m with
    | zero => intro i σ S' h1 h2; omega
    | succ m ih =>
      intro i σ S' h1 h2 hJ p
      unfold pullV
      rw [it S' p i]
      cases e : xs[i]? with
      | none =>
        have hi : i = xs.length := by
          have := List.getElem?_eq_none_iff.mp e; omega
        simp only [W_some]
        exact ⟨p, by rw [hi, List.drop_length]; rfl⟩
      | some x =>
        have hlt : i < xs.length := (List.getElem?_eq_some_iff.mp e).1
        have ed : xs.drop i = x :: xs.drop (i + 1) := by
          rw [List.drop_eq_getElem_cons hlt]
          congr 1
          exact (List.getElem?_eq_some_iff.mp e).2
        obtain ⟨⟨σ2, S2⟩, e1, j2, q1⟩ := hstep i x e σ S' hJ p
        dsimp only at j2
        dsimp only
        rw [e1]; dsimp only
        obtain ⟨⟨b, S3⟩, e2, q2⟩ := q1
        dsimp only at e2
        rw [e2]
        cases ef : f x with
        | none =>
          simp only [ef] at q2
          obtain ⟨rfl, p3⟩ := q2
          dsimp only
          refine (ih (i + 1) σ2 S3 hlt (by omega) j2 (p.trans p3)).imp ?_
          rintro ⟨r, S4⟩ ⟨h3, h4⟩
          refine ⟨h3, ?_⟩
          rw [ed, List.filterMap_cons, ef]
          cases r with
          | none => exact h4
          | some q => exact ⟨by have := h4.1; omega, h4.2.1, h4.2.2.1, h4.2.2.2⟩
        | some y =>
          simp only [ef] at q2
          obtain ⟨rfl, ⟨y', S4⟩, e3, h5, p4⟩ := q2
          dsimp only at e3 h5 p4 ⊢
          subst h5
          rw [e3]
          simp only [W_some]
          refine ⟨p.trans p4, by omega, hlt, j2, ?_⟩
          rw [ed, List.filterMap_cons, ef]
  have col : ∀ (m : Nat) (ys : List D) (i : Nat) (σ : Slots) (S' : Store), i ≤ xs.length → xs.length < m + i → ys.length ≤ i → J σ → Pre1 S S' → W (colG ⟨src, g, tt, fe, n⟩ m ys i σ S') fun p => p.1 = ys ++ (xs.drop i).filterMap f ∧ Pre1 S p.2 := by
    intro m
    induction m with
    | zero => intro ys i σ S' h1 h2; omega
    | succ m ih =>
      intro ys i σ S' h1 h2 hy hJ p
      unfold colG
      obtain ⟨⟨r, S2⟩, e1, p2, q⟩ := pull n i σ S' h1 (by omega) hJ p
      have e1' : Gn.pull ⟨src, g, tt, fe, n⟩ i σ S' = some (r, S2) := e1
      rw [e1']
      cases r with
      | none => exact W_some.mpr ⟨by rw [show (xs.drop i).filterMap f = [] from q, List.append_nil], p2⟩
      | some r =>
        obtain ⟨y, i', σ'⟩ := r
        obtain ⟨q1, q2, q3, q4⟩ := q
        dsimp only
        rw [if_pos (by omega)]
        refine (ih (ys ++ [y]) i' σ' S2 q2 (by omega) (by simp; omega) q3 p2).imp ?_
        rintro ⟨r, S3⟩ ⟨h3, h4⟩
        refine ⟨?_, h4⟩
        simp only at h3
        simp [h3, q4]
  obtain ⟨⟨ys, S2⟩, e, h1, h2⟩ := col n [] 0 σ S (Nat.zero_le _) (by omega) (Nat.le_refl _) hJ (.refl _)
  unfold eatTup
  rw [e]
  refine W_some.mpr ⟨?_, p0.trans h2⟩
  simp only at h1
  rw [h1]; rfl
theorem filt_map {l : List Cell} (p : Cell → Bool) (f : D → Option D) (h : ∀ c, f (cD c) = if p c then some (cD c) else none) : (csD l).filterMap f = csD (l.filter p) := by
  induction l with
  | nil => rfl
  | cons a r ih =>
    rw [csD, List.map_cons, List.filterMap_cons, h]
    by_cases hp : p a = true
    · rw [if_pos hp, List.filter_cons_of_pos hp]
      show cD a :: (csD r).filterMap f = _
      rw [ih]; rfl
    · rw [if_neg hp, List.filter_cons_of_neg hp]
      exact ih
/-- a cell's datum back -/
def dC : D → Cell
  | .tup [.int a, .int b] => (a, b)
  | _ => (0, 0)
@[simp] theorem dC_cD (c : Cell) : dC (cD c) = c := rfl
theorem csD_get {l : List Cell} {i : Nat} {x : D} (h : (csD l)[i]? = some x) : ∃ c, l[i]? = some c ∧ x = cD c := by
  rw [List.getElem?_map] at h
  cases hs : l[i]? with
  | none => rw [hs] at h; cases h
  | some c => rw [hs] at h; cases h; exact ⟨c, rfl, rfl⟩
theorem simple_cells_ok (H : SimOk) (l : List Cell) (S : Store) (hl : l.length < 400) : W (m_simple_cells [.tup (csD l)] S) (Val (.tup (csD (l.filter (simL l)))) S) := by
  rw [m_simple_cells, w_runM]
  simp [b_simple_cells]
  refine (cell_table_ok l S hl).imp ?_
  rintro ⟨d, S1⟩ ⟨n, rfl, p1, _, h⟩
  dsimp only at p1 h
  simp [srcD, capD]
  refine (gt_pure (S0 := S) (csD l) (fun d => if simL l (dC d) then some d else none) (fun σ => ∃ a b c, σ = [a, b, some (.loc n), c]) (by simpa [LF] using hl) (by simp [most]; omega) p1 (items_tup _ _) ⟨_, _, _, rfl⟩ ?_).imp ?_
  · rintro i x hx σ S' ⟨a, b, c', rfl⟩ p
    obtain ⟨c, hc, rfl⟩ := csD_get hx
    simp
    refine (is_simple_in_ok H l c (h.pre p)).imp ?_
    rintro ⟨d, S2⟩ ⟨e, p2⟩
    simp only at e p2
    subst e
    have hm : c ∈ l := List.mem_of_getElem? hc
    simp only [trK_bl, simL, hm, decide_true, Bool.true_and]
    cases simI (codeL l c)
    · exact ⟨rfl, p2⟩
    · exact ⟨rfl, rfl, p2⟩
  · rintro ⟨d, S2⟩ ⟨e, p2⟩
    rw [filt_map (simL l) _ (fun c => rfl)] at e
    exact ⟨e, p2⟩
end RF

end

/-! ## M05e -/
section
set_option maxRecDepth 100000
namespace RF
open PySem PySem.W L2
/-! the drawing source -/
def srcKV (b : Nat) (L M T : Int) : List (D × D) := [(.str "cells", .loc b), (.str "left", .int L), (.str "mixed", .int M), (.str "turn", .int T)]
theorem src_cells (b : Nat) (L M T : Int) : lookD (srcKV b L M T) (.str "cells") = some (.loc b) := rfl
theorem src_left (b : Nat) (L M T : Int) : lookD (srcKV b L M T) (.str "left") = some (.int L) := rfl
theorem src_mixed (b : Nat) (L M T : Int) : lookD (srcKV b L M T) (.str "mixed") = some (.int M) := rfl
theorem src_turn (b : Nat) (L M T : Int) : lookD (srcKV b L M T) (.str "turn") = some (.int T) := rfl
theorem src_kind (b : Nat) (L M T : Int) (x : Str) : kindOk (srcKV b L M T) (.str x) = true := rfl
theorem src_put_left (b : Nat) (L M T x : Int) : putD (srcKV b L M T) (.str "left") (.int x) = srcKV b x M T := rfl
theorem src_put_turn (b : Nat) (L M T x : Int) : putD (srcKV b L M T) (.str "turn") (.int x) = srcKV b L M x := rfl
theorem Fr.set2a {S S' : Store} {a b : Nat} (h : Fr [a, b] S S') (o : O) : Fr [a, b] S (List.set S' a o) := h.set (.inl (by simp)) o
theorem Fr.set2b {S S' : Store} {a b : Nat} (h : Fr [a, b] S S') (o : O) : Fr [a, b] S (List.set S' b o) := h.set (.inl (by simp)) o
structure SrcAt (S : Store) (a b : Nat) : Prop where
  ne : a ≠ b
  ex : ∃ (L M T : Int) (cs : List Int), At S a (.dct (srcKV b L M T)) ∧ At S b (.lst (cs.map .int)) ∧ cs.length ≤ 63
theorem SrcAt.fr {S S' : Store} {a b : Nat} {A : List Nat} (h : SrcAt S a b) (f : Fr A S S') (ha : a ∉ A) (hb : b ∉ A) : SrcAt S' a b := by
  obtain ⟨ne, L, M, T, cs, h1, h2, h3⟩ := h
  exact ⟨ne, L, M, T, cs, f.at h1 ha, f.at h2 hb, h3⟩
theorem SrcAt.pre {S S' : Store} {a b : Nat} (h : SrcAt S a b) (p : Pre1 S S') : SrcAt S' a b := h.fr (Fr.pre (A := []) p) (by simp) (by simp)
theorem SrcAt.lt {S : Store} {a b : Nat} (h : SrcAt S a b) : a < List.length S ∧ b < List.length S := by
  obtain ⟨ne, L, M, T, cs, h1, h2, h3⟩ := h
  exact ⟨h1.lt, h2.lt⟩
/-- what a draw tells -/
def Drawn (a b : Nat) (S : Store) (m : Int) (p : D × Store) : Prop := ∃ r : Int, p.1 = .int r ∧ 0 ≤ r ∧ (r < m ∨ (m < 2 ∧ r = 0)) ∧ SrcAt p.2 a b ∧ Fr [a, b] S p.2
theorem ix_src {S : Store} {a : Nat} {kvs : List (D × D)} {x d : D} {Q : D × Store → Prop} (h : At S a (.dct kvs)) (hk : kindOk kvs x = true) (hl : lookD kvs x = some d) (q : Q (d, S)) : W (ixD (.loc a) x S) Q := by
  simp only [ixD, h, hk, if_true, hl, W_some]; exact q
theorem fmod_lt {x m : Int} (hm : 2 ≤ m) : 0 ≤ x.fmod m ∧ x.fmod m < m := by
  rw [Int.fmod_eq_emod_of_nonneg _ (by omega)]
  exact ⟨Int.emod_nonneg _ (by omega), Int.emod_lt_of_pos _ (by omega)⟩
theorem put_src {S : Store} {a : Nat} {kvs : List (D × D)} {x v : D} (h : At S a (.dct kvs)) (hk : kindOk kvs x = true) (hl : kvs.length ≤ most) : putS (.loc a) x v S = some (List.set S a (.dct (putD kvs x v))) := by
  simp only [putS, h, hk, if_true, hl]
theorem pick_ok {a b : Nat} {S : Store} (m : Int) (hm : m < 1000000) (h : SrcAt S a b) : W (m__law_pick [.loc a, .int m] S) (Drawn a b S m) := by
  rw [m__law_pick, w_runM]
  simp [b__law_pick]
  refine ⟨fun h2 => ⟨0, rfl, Int.le_refl _, .inr ⟨h2, rfl⟩, h, .refl _ _⟩, fun h2 => ?_⟩
  · obtain ⟨ne, L, M, T, cs, h1, hb, hcs⟩ := h
    refine ix_src h1 (src_kind ..) (src_cells ..) ?_
    simp
    refine W.imp (Q := fun r => r.1 = .nx ∧ r.2.1 = [some (.loc a), some (.int m), some (.loc b), none, none, none, none, none] ∧ Fr [a, b] S r.2.2 ∧ SrcAt r.2.2 a b) (while_rule (fun i σ S' => σ = [some (.loc a), some (.int m), some (.loc b), none, none, none, none, none] ∧ Fr [a, b] S S' ∧ ∃ (L M T : Int) (cs : List Int), At S' a (.dct (srcKV b L M T)) ∧ At S' b (.lst (cs.map .int)) ∧ cs.length = i ∧ i ≤ 63) cs.length LF (by simp [LF]; omega) ?_ ⟨rfl, .refl _ _, L, M, T, cs, h1, hb, rfl, hcs⟩) ?_
    · rintro i σ S' ⟨rfl, f, L, M, T, cs, ha, hb, hl, hi⟩
      have sa : SrcAt S' a b := ⟨ne, L, M, T, cs, ha, hb, by omega⟩
      simp
      refine ix_src ha (src_kind ..) (src_left ..) ?_
      simp [lenG, seqD, hb]
      refine ⟨fun hL => ⟨fun hz => ⟨f, sa⟩, fun hz => ?_⟩, fun hL => ⟨f, sa⟩⟩
      obtain ⟨cs', x, rfl⟩ : ∃ cs' x, cs = cs' ++ [x] := by
        rcases List.eq_nil_or_concat cs with h | ⟨l, x, h⟩
        · subst h; simp at hz
        · exact ⟨l, x, by simpa using h⟩
      have hb' := hb
      rw [List.map_append] at hb'
      simp only [mk_lst hb, mK_lst]
      refine w_pop hb' ?_
      simp
      refine .of (put_src (ha.set_ne ne) (src_kind ..) (by simp [srcKV, most])) ?_
      rw [src_put_left]
      simp at hl
      refine ⟨cs'.length, by omega, (f.set2b _).set2a _, ⟨_, _, _, At.set (by rw [List.length_set]; exact ha.lt)⟩, cs', (At.set hb.lt).set_ne (Ne.symm ne), rfl, by omega⟩
    · rintro ⟨r, σ, S'⟩ ⟨rfl, rfl, f, h⟩
      obtain ⟨ne, L, M, T, cs, ha, hb, hcs⟩ := h
      simp at f ha hb ⊢
      refine ix_src ha (src_kind ..) (src_left ..) ?_
      simp
      refine ⟨fun hL => ⟨⟨by omega, by omega⟩, ?_⟩, fun hL => ?_⟩
      · refine .of (put_src ha (src_kind ..) (by simp [srcKV, most])) ?_
        rw [src_put_left]
        simp [intG]
        obtain ⟨q1, q2⟩ := fmod_lt (x := L) h2
        exact ⟨by omega, _, rfl, q1, .inl q2, ⟨ne, _, _, _, _, At.set ha.lt, hb.set_ne (Ne.symm ne), hcs⟩, f.set2a _⟩
      · refine ix_src ha (src_kind ..) (src_turn ..) ?_
        simp
        refine .of (put_src ha (src_kind ..) (by simp [srcKV, most])) ?_
        rw [src_put_turn]
        have ha2 : At (List.set S' a (.dct (srcKV b L M (T + 1)))) a (.dct (srcKV b L M (T + 1))) := At.set ha.lt
        refine ix_src ha2 (src_kind ..) (src_turn ..) ?_
        simp
        refine ix_src ha2 (src_kind ..) (src_mixed ..) ?_
        simp [intG]
        have hx : ∀ x : Int, (x.fmod 998244353).natAbs < 18446744073709551616 := fun x => by
          have := fmod_lt (x := x) (m := 998244353) (by omega)
          omega
        refine ⟨hx _, ?_⟩
        have h3 : ∀ x : Int, Drawn a b S m (.int (x.fmod m), List.set S' a (.dct (srcKV b L M (T + 1)))) := fun x => by
          obtain ⟨q1, q2⟩ := fmod_lt (x := x) h2
          exact ⟨_, rfl, q1, .inl q2, ⟨ne, _, _, _, _, ha2, hb.set_ne (Ne.symm ne), hcs⟩, f.set2a _⟩
        exact ⟨by omega, h3 _⟩
end RF

end

/-! ## M05f -/
section
set_option maxRecDepth 100000
namespace RF
open PySem PySem.W L2
theorem open_ok {S : Store} {n : Nat} {ns : List Int} (h : At S n (.fro (ns.map .int))) (hl : ns.length ≤ 63) : W (m__law_open_cells [.loc n] S) fun p => ∃ a b, p.1 = .loc a ∧ SrcAt p.2 a b ∧ Pre1 S p.2 := by
  rw [m__law_open_cells, w_runM]
  simp [b__law_open_cells, srcD_fro h]
  refine W.imp (Q := fun r => r.1 = .nx ∧ r.2.2 = S ∧ ∃ (z : Int) (u : Option D), r.2.1 = [some (.loc n), some (.int z), u, none, none]) (for_rule (xs := ns.map .int) (fun i σ S' => S' = S ∧ ∃ (z : Int) (u : Option D), σ = [some (.loc n), some (.int z), u, none, none]) LF (by simp [LF]; omega) ?_ ?_ ?_ ?_) ?_
  · rintro i σ S' ⟨rfl, _⟩; exact items_fro h S' (.refl _) i
  · rintro i x σ S' hx ⟨rfl, z, u, rfl⟩
    rw [List.getElem?_map] at hx
    cases hs : ns[i]? with
    | none => rw [hs] at hx; cases hx
    | some y =>
      rw [hs] at hx
      cases hx
      simp [intG]
  · rintro σ S' ⟨rfl, z, u, rfl⟩
    exact ⟨rfl, rfl, z, u, rfl⟩
  · exact ⟨rfl, 11, none, rfl⟩
  · rintro ⟨r, σ, S'⟩ ⟨rfl, e, z, u, e2⟩
    simp only at e e2
    subst e e2
    simp only [seqK_nx, w_seqV, w_asgV]
    refine (lc_map (ns.map .int) (fun d => match d with | .int i => .int (if i < 0 then -i else i) | d => d) (by simp [LF]; omega) (by simp [most]; omega) ?_ ?_).imp ?_
    · simp [srcD_fro h, Pre1.refl]; exact items_fro h
    · intro i x hx S' p
      rw [List.getElem?_map] at hx
      cases hs : ns[i]? with
      | none => rw [hs] at hx; cases hx
      | some y =>
        rw [hs] at hx
        cases hx
        simp [wipeD, absG, Pre1.refl]
    · rintro ⟨d, S1⟩ ⟨m, rfl, p1, hm, h1⟩
      simp only at p1 h1
      have el : (ns.map D.int).map (fun d => match d with | .int i => .int (if i < 0 then -i else i) | d => d) = (ns.map fun i => if i < 0 then -i else i).map D.int := by
        rw [List.map_map, List.map_map]; rfl
      rw [el] at h1
      have h2 := h1.app [.dct []]
      have h3 : List.length (S1 ++ [O.dct []]) = List.length S1 + 1 := by simp
      simp
      simp only [dispE, pairsE, valE, revE, slotE, List.getElem?_cons_succ, List.getElem?_cons_zero, h2, h3]
      have h4 : (S1 ++ [O.dct []] ++ [O.lst ((ns.map fun i => if i < 0 then -i else i).map D.int).reverse])[List.length S1]? = some (.dct []) := by simp
      have h5 : (List.all [((.str "cells" : D), (.loc (List.length S1 + 1) : D)), (.str "left", .int 1), (.str "mixed", .int z), (.str "turn", .int 0)] fun e => (dKey e.1).isSome) = true := rfl
      have h6 : putAll [] [((.str "cells" : D), (.loc (List.length S1 + 1) : D)), (.str "left", .int 1), (.str "mixed", .int z), (.str "turn", .int 0)] = srcKV (List.length S1 + 1) 1 z 0 := rfl
      rw [if_pos h5, h4]
      simp only [W_some, h6]
      refine ⟨List.length S1, rfl, ⟨List.length S1 + 1, by omega, 1, z, 0, (ns.map fun i => if i < 0 then -i else i).reverse, At.set (by simp), ?_, by simpa using hl⟩, ((p1.app _).app _).set p1.len _⟩
      refine At.set_ne ?_ (by omega)
      rw [List.map_reverse]
      simp [At]
theorem any_order_ok {a b : Nat} {S : Store} {d : D} {xs : List D} (h : SrcAt S a b) (hd : seqD S d = some xs) (hl : xs.length < 400) : W (m__law_any_order [.loc a, d] S) fun p => ∃ n ds, p.1 = .loc n ∧ Fr [a, b] S p.2 ∧ SrcAt p.2 a b ∧ List.length S ≤ n ∧ At p.2 n (.lst ds) ∧ ds.length = xs.length ∧ ∀ x ∈ ds, x ∈ xs := by
  rw [m__law_any_order, w_runM]
  simp [b__law_any_order, listG, hd]
  have hc := At.new S (.lst xs)
  simp [lenG, seqD, rg62]
  refine ⟨by omega, ?_⟩
  obtain ⟨la, lb⟩ := h.lt
  have h1 := h.pre (List.prefix_append S [.lst xs])
  have e0 : wipeD [some (D.loc a), some d, some (D.loc (List.length S)), none, none, none, none] [6] = [some (D.loc a), some d, some (D.loc (List.length S)), none, none, none, none] := rfl
  rw [e0]
  refine lc_rule (xs := rgL 0 xs.length) (fun i acc S' => Fr [a, b] S S' ∧ SrcAt S' a b ∧ At S' (List.length S + 1) (.lst acc) ∧ acc.length = i ∧ (∀ x ∈ acc, x ∈ xs) ∧ ∃ rest, At S' (List.length S) (.lst rest) ∧ rest.length + i = xs.length ∧ ∀ x ∈ rest, x ∈ xs) LF (by simpa [rgL, LF] using hl) (by simp [rgL, most]; omega) ?_ ?_ ?_ ?_ (acc := []) ?_
  · rintro i acc S' _; exact items_rng 0 _ S' S' (.refl _) i
  · rintro i acc S' ⟨_, _, _, h, _⟩; omega
  · rintro i x acc S' hx ⟨f, sa, hacc, hlen, hin, rest, hr, hrl, hrin⟩
    have hlt := (List.getElem?_eq_some_iff.mp hx).1
    simp [rgL] at hlt
    simp [yesB, mk_lst hr, lenG, seqD, hr]
    refine (pick_ok (rest.length : Int) (by omega) sa).imp ?_
    rintro ⟨d1, S1⟩ ⟨r, rfl, r0, r1, sa1, f1⟩
    have r2 : r.toNat < rest.length := by omega
    have ra : List.length S ≠ a ∧ List.length S ≠ b := ⟨by omega, by omega⟩
    have rb : List.length S + 1 ≠ a ∧ List.length S + 1 ≠ b := ⟨by omega, by omega⟩
    have hr1 := f1.at hr (by simp [ra.1, ra.2])
    have hacc1 := f1.at hacc (by simp [rb.1, rb.2])
    dsimp only
    refine w_popi hr1 r0 (by omega) (List.getElem?_eq_getElem r2) ?_
    have hlt2 := hacc1.lt
    have hacc2 : At (List.set S1 (List.length S) (.lst (rest.eraseIdx r.toNat))) (List.length S + 1) (.lst acc) := hacc1.set_ne (by omega)
    refine ⟨hacc2, ?_, ?_, At.set hacc2.lt, by simp [hlen], ?_, rest.eraseIdx r.toNat, (At.set hr1.lt).set_ne (by omega), ?_, ?_⟩
    · exact ((f.trans f1).set (.inr (Nat.le_refl _)) _).set (.inr (by omega)) _
    · exact (sa1.fr ((Fr.refl [List.length S] _).set (.inl (by simp)) _) (by simp [Ne.symm ra.1]) (by simp [Ne.symm ra.2])).fr ((Fr.refl [List.length S + 1] _).set (.inl (by simp)) _) (by simp [Ne.symm rb.1]) (by simp [Ne.symm rb.2])
    · intro x hx
      rcases hx with h | h
      · exact hin x h
      · simp at h; rw [h]; exact hrin _ (List.getElem_mem r2)
    · rw [List.length_eraseIdx_of_lt r2]; omega
    · intro x hx
      exact hrin x (List.mem_of_mem_eraseIdx hx)
  · rintro acc S' ⟨f, sa, hacc, hlen, hin, _⟩
    exact ⟨f, sa, acc, hacc, by simpa [rgL] using hlen, hin⟩
  · refine ⟨Fr.pre (List.prefix_append _ _), h.pre (List.prefix_append _ _), by simp [At], rfl, by simp, xs, by simp [At], by simp, fun x hx => hx⟩
end RF

end

/-! ## M05g -/
section
set_option maxRecDepth 100000
namespace RF
open PySem PySem.W L2
/-- a drawn picture within m by m -/
structure PicOk (m : Nat) (l : List Cell) : Prop where
  nd : l.Nodup
  box : ∀ c ∈ l, 0 ≤ c.1 ∧ c.1 < m ∧ 0 ≤ c.2 ∧ c.2 < m
  len : l.length ≤ m * m
theorem nodup_app {l r : List Cell} (h1 : l.Nodup) (h2 : r.Nodup) (h3 : ∀ c ∈ l, c ∉ r) : (l ++ r).Nodup := by
  rw [List.nodup_append]
  exact ⟨h1, h2, fun a ha b hb e => h3 a ha (e ▸ hb)⟩
/-- a column of a drawn picture -/
structure ColOk (x : Int) (j : Nat) (l : List Cell) : Prop where
  nd : l.Nodup
  box : ∀ c ∈ l, c.1 = x ∧ 0 ≤ c.2 ∧ c.2 < j
  len : l.length ≤ j
structure GrdOk (i h : Nat) (l : List Cell) : Prop where
  nd : l.Nodup
  box : ∀ c ∈ l, 0 ≤ c.1 ∧ c.1 < i ∧ 0 ≤ c.2 ∧ c.2 < h
  len : l.length ≤ i * h
theorem GrdOk.col {i h : Nat} {l r : List Cell} (g : GrdOk i h l) (c : ColOk i h r) : GrdOk (i + 1) h (l ++ r) := by
  refine ⟨nodup_app g.nd c.nd fun a ha hb => ?_, fun a ha => ?_, ?_⟩
  · have := (g.box a ha).2.1
    have := (c.box a hb).1
    omega
  · rcases List.mem_append.mp ha with h | h
    · have := g.box a h; omega
    · have := c.box a h; omega
  · rw [List.length_append, Nat.succ_mul]
    exact Nat.add_le_add g.len c.len
theorem rg_get {lo : Int} {n i : Nat} {x : D} (h : (rgL lo n)[i]? = some x) : i < n ∧ x = .int (lo + i) := by
  have hlt := (List.getElem?_eq_some_iff.mp h).1
  simp [rgL] at hlt
  refine ⟨hlt, ?_⟩
  simp [rgL, hlt] at h
  exact h.symm
theorem draw_picture_ok {a b : Nat} {S : Store} (m : Nat) (hm : 1 ≤ m ∧ m ≤ 7) (h : SrcAt S a b) : W (m__law_draw_picture [.loc a, .int m] S) fun p => ∃ l, p.1 = .tup (csD l) ∧ Fr [a, b] S p.2 ∧ SrcAt p.2 a b ∧ PicOk m l := by
  rw [m__law_draw_picture, w_runM]
  simp [b__law_draw_picture]
  refine (pick_ok (m : Int) (by omega) h).imp ?_
  rintro ⟨d1, S1⟩ ⟨w, rfl, w0, w1, sa1, f1⟩
  simp
  refine (pick_ok (m : Int) (by omega) sa1).imp ?_
  rintro ⟨d2, S2⟩ ⟨g, rfl, g0, g1, sa2, f2⟩
  dsimp only at sa1 f1 sa2 f2
  simp [most]
  have sa3 := sa2.pre (List.prefix_append S2 [O.lst [], O.lst [.int 2, .int 3, .int 3, .int 5]])
  obtain ⟨la, lb⟩ := sa2.lt
  refine (pick_ok 4 (by omega) sa3).imp ?_
  rintro ⟨d3, S3⟩ ⟨q, rfl, q0, q1, sa4, f3⟩
  dsimp only at sa4 f3
  have hF := f3.at (get_ap0 S2 [.lst [.int 2, .int 3, .int 3, .int 5]] (.lst [])) (by simp; omega)
  have hD := f3.at (get_ap1 S2 [] (.lst []) (.lst [.int 2, .int 3, .int 3, .int 5])) (by simp; omega)
  simp
  have hq : ∃ dn : Int, atI [D.int 2, .int 3, .int 3, .int 5] q = some (.int dn) ∧ 2 ≤ dn ∧ dn ≤ 5 := by
    have : q = 0 ∨ q = 1 ∨ q = 2 ∨ q = 3 := by omega
    rcases this with rfl | rfl | rfl | rfl
    · exact ⟨2, rfl, by omega, by omega⟩
    · exact ⟨3, rfl, by omega, by omega⟩
    · exact ⟨3, rfl, by omega, by omega⟩
    · exact ⟨5, rfl, by omega, by omega⟩
  obtain ⟨dn, hdn, hd0, hd1⟩ := hq
  refine .of (a := (.int dn, S3)) (by simp only [ixD, hD, hdn]) ?_
  have fS : Fr [a, b] S S3 := ((f1.trans f2).app _).trans f3
  obtain ⟨W1, hW⟩ : ∃ k : Nat, (1 + w).toNat = k ∧ k ≤ m := ⟨_, rfl, by omega⟩
  obtain ⟨G1, hG⟩ : ∃ k : Nat, 1 + g = (k : Int) ∧ k ≤ m := ⟨(1 + g).toNat, by omega, by omega⟩
  obtain ⟨lSa, lSb⟩ := h.lt
  simp only [w_seqV, w_asgV, w_forIV, w_rng1, w_consA, w_nilA, w_slot, List.set_cons_zero, List.set_cons_succ, List.getElem?_cons_zero, List.getElem?_cons_succ, Option.some.injEq, exists_eq_left', rg1K_one, w_setV, seqK_nx, hW.1]
  refine ⟨by simp [rg62]; omega, ?_⟩
  have er : (rgL 0 W1).length = W1 := by simp [rgL]
  have lf := f1.len
  have lf2 := f2.len
  refine for_rule (xs := rgL 0 W1) (fun i σ S' => Fr [a, b] S S' ∧ SrcAt S' a b ∧ ∃ n l u v, List.length S ≤ n ∧ At S' n (.lst (csD l)) ∧ GrdOk i G1 l ∧ σ = [some (.loc a), some (.int m), some (.int (1 + w)), some (.int G1), some (.loc n), some (.int dn), u, none, none, none, none, v]) LF (by rw [er]; simp [LF]; omega) ?_ ?_ ?_ ?_
  · rintro i σ S' _; exact items_rng 0 _ S' S' (.refl _) i
  · rintro i x σ S' hx ⟨f, sa, n, l, u, v, hn, hl, gr, rfl⟩
    obtain ⟨hi, rfl⟩ := rg_get hx
    simp
    refine ⟨by simp [rg62]; omega, ?_⟩
    have er2 : (rgL 0 G1).length = G1 := by simp [rgL]
    obtain ⟨la', lb'⟩ := sa.lt
    have e0 : wipeD [some (.loc a), some (.int m), some (.int (1 + w)), some (.int G1), some (.loc n), some (.int dn), some (.int i), none, none, none, none, v] [11] = [some (.loc a), some (.int m), some (.int (1 + w)), some (.int G1), some (.loc n), some (.int dn), some (.int i), none, none, none, none, none] := rfl
    rw [e0]
    refine lc_rule (xs := rgL 0 G1) (fun j acc S2 => Fr [a, b] S' S2 ∧ SrcAt S2 a b ∧ At S2 (List.length S') (.lst acc) ∧ ∃ r, acc = csD r ∧ ColOk i j r) LF (by rw [er2]; simp [LF]; omega) (by rw [er2]; simp [most]; omega) ?_ ?_ ?_ ?_ (acc := []) ?_
    · rintro j acc S2 _; exact items_rng 0 _ S2 S2 (.refl _) j
    · rintro j acc S2 ⟨_, _, _, r, rfl, c⟩; simpa using c.len
    · rintro j y acc S2 hy ⟨f2, sa2, hk, r, rfl, c⟩
      obtain ⟨hj, rfl⟩ := rg_get hy
      simp
      refine (pick_ok dn (by omega) sa2).imp ?_
      rintro ⟨d4, S4⟩ ⟨z, rfl, z0, z1, sa4, f4⟩
      dsimp only at sa4 f4
      have hk4 := f4.at hk (by simp; omega)
      simp
      refine ⟨fun hz => ⟨f2.trans f4, sa4, hk4, r, rfl, c.nd, fun c' h' => by have := c.box c' h'; omega, by have := c.len; omega⟩, fun hz => ?_⟩
      simp [most]
      have sa5 : SrcAt (List.set S4 (List.length S') (.lst (csD r ++ [D.tup [.int i, .int j]]))) a b := sa4.fr ((Fr.refl [List.length S'] _).set (.inl (by simp)) _) (by simp; omega) (by simp; omega)
      refine ⟨hk4, (f2.trans f4).set (.inr (Nat.le_refl _)) _, sa5, At.set hk4.lt, r ++ [((i : Int), (j : Int))], by simp, nodup_app c.nd (by simp) ?_, ?_, ?_⟩
      · intro c' h' h2
        have := c.box c' h'
        simp at h2
        rw [h2] at this
        simp at this
      · intro c' h'
        rcases List.mem_append.mp h' with h | h
        · have := c.box c' h; omega
        · simp at h; rw [h]; simp; omega
      · have := c.len; simp; omega
    · rintro acc S2 ⟨f2, sa2, hk, r, rfl, c⟩
      rw [er2] at c
      have hl2 := f2.at hl (by simp; omega)
      have gc := gr.col c
      refine w_add_lst hl2 hk (by rw [← List.length_append]; simp only [csD, ← List.map_append, List.length_map]; have := gc.len; simp [most]; simp at this; have := Nat.mul_le_mul (show i + 1 ≤ 7 by omega) (show G1 ≤ 7 by omega); omega) ?_
      simp
      refine ⟨(f.trans f2).app _, sa2.pre (List.prefix_append _ _), List.length S2, ?_, l ++ r, ?_, gc, rfl⟩
      · have := f.len; have := f2.len; omega
      · simp [At]
    · exact ⟨Fr.pre (List.prefix_append _ _), sa.pre (List.prefix_append _ _), At.new _ _, [], rfl, by simp, by simp, by simp⟩
  · rintro σ S' ⟨f, sa, n, l, u, v, hn, hl, gr, rfl⟩
    rw [er] at gr
    simp
    have hlen : l.length ≤ most := by
      have := gr.len
      have := Nat.mul_le_mul (show W1 ≤ 7 by omega) (show G1 ≤ 7 by omega)
      simp [most]; omega
    refine .of (sorted_ok hl hlen) ?_
    have hs := At.new S' (.lst (csD (sortC l)))
    simp [tupleG, seqD]
    have pm := sortC_perm l
    refine ⟨sortC l, rfl, f.app _, sa.pre (List.prefix_append _ _), pm.nodup_iff.mpr gr.nd, fun c hc => ?_, ?_⟩
    · have := gr.box c (pm.mem_iff.mp hc); omega
    · rw [pm.length_eq]
      exact Nat.le_trans gr.len (Nat.mul_le_mul hW.2 hG.2)
  · refine ⟨fS, sa4, _, [], none, none, by omega, hF, ⟨by simp, by simp, by simp⟩, by rw [hG.1]⟩
end RF

end

/-! ## M05h -/
section
set_option maxRecDepth 100000
namespace RF
open PySem PySem.W L2
/-- the cells of a list that pass a test with draws -/
theorem lc_sub {fi : IV} {g : GV} {tt : BV} {fe : EV} {vs : List Nat} {lf : Nat} {σ : Slots} {S : Store} {a b : Nat} (l : List Cell) (hn : l.length < lf) (hm : l.length ≤ most) (h : SrcAt S a b)
    (hi : W (fi σ S) fun p => p.2 = S ∧ ∀ S', Fr [a, b] S S' → ∀ i : Nat, nextS S' p.1 i = some (csD l)[i]?)
    (hstep : ∀ c ∈ l, ∀ S', Fr [a, b] S S' → SrcAt S' a b → W (g (cD c) (wipeD σ vs) S') fun p => W (tt p.1 p.2) fun r => Fr [a, b] S' r.2 ∧ SrcAt r.2 a b ∧ (r.1 = true → W (fe p.1 r.2) fun q => q = (cD c, r.2))) :
    W (lcE fi g tt fe vs lf σ S) fun p => ∃ n r, p.1 = .loc n ∧ Fr [a, b] S p.2 ∧ SrcAt p.2 a b ∧ List.length S ≤ n ∧ At p.2 n (.lst (csD r)) ∧ r.Sublist l := by
  rw [w_lcE]
  refine hi.imp ?_
  rintro ⟨src, S1⟩ ⟨e, it⟩
  simp only at e it
  subst e
  obtain ⟨la, lb⟩ := h.lt
  refine (lc_rule (xs := csD l) (Q := fun S2 => Fr [a, b] S1 S2 ∧ SrcAt S2 a b ∧ ∃ r, At S2 (List.length S1) (.lst (csD r)) ∧ r.Sublist l) (fun i acc S2 => Fr [a, b] S1 S2 ∧ SrcAt S2 a b ∧ ∃ r, acc = csD r ∧ At S2 (List.length S1) (.lst acc) ∧ r.Sublist (l.take i)) lf (by simpa using hn) (by simpa using hm) ?_ ?_ ?_ ?_ (acc := []) ?_).imp ?_
  · rintro i acc S2 ⟨f, _⟩; exact it S2 f i
  · rintro i acc S2 ⟨_, _, r, rfl, _, s⟩
    have := s.length_le
    simp at this ⊢; omega
  · rintro i x acc S2 hx ⟨f, sa, r, rfl, hk, s⟩
    obtain ⟨c, hc, rfl⟩ := csD_get hx
    have et : l.take (i + 1) = l.take i ++ [c] := by rw [List.take_succ, hc]; rfl
    refine (hstep c (List.mem_of_getElem? hc) S2 f sa).imp ?_
    rintro ⟨σ2, S3⟩ q
    refine q.imp ?_
    rintro ⟨t, S4⟩ ⟨f4, sa4, q⟩
    dsimp only at f4 sa4 q
    have hk4 := f4.at hk (by simp; omega)
    refine ⟨fun ht => ⟨f.trans f4, sa4, r, rfl, hk4, by rw [et]; exact s.trans (List.sublist_append_left _ _)⟩, fun ht => (q ht).imp ?_⟩
    rintro ⟨y, S5⟩ e
    cases e
    refine ⟨hk4, (f.trans f4).set (.inr (Nat.le_refl _)) _, sa4.fr ((Fr.refl [List.length S1] _).set (.inl (by simp)) _) (by simp; omega) (by simp; omega), r ++ [c], by simp, At.set hk4.lt, by rw [et]; exact s.append (List.Sublist.refl _)⟩
  · rintro acc S2 ⟨f, sa, r, rfl, hk, s⟩
    simp only [List.length_map, List.take_length] at s
    exact ⟨f, sa, r, hk, s⟩
  · exact ⟨Fr.pre (List.prefix_append _ _), h.pre (List.prefix_append _ _), [], rfl, At.new _ _, by simp⟩
  · rintro S2 ⟨f, sa, r, hk, s⟩
    exact ⟨_, r, rfl, f, sa, Nat.le_refl _, hk, s⟩
theorem GrdOk.sub {i h : Nat} {l r : List Cell} (g : GrdOk i h l) (s : r.Sublist l) : GrdOk i h r := ⟨g.nd.sublist s, fun c hc => g.box c (s.subset hc), Nat.le_trans s.length_le g.len⟩
theorem GrdOk.pic {i h m : Nat} {l : List Cell} (g : GrdOk i h l) (hi : i ≤ m) (hh : h ≤ m) : PicOk m l := ⟨g.nd, fun c hc => by have := g.box c hc; omega, Nat.le_trans g.len (Nat.mul_le_mul hi hh)⟩
def colC (x : Int) (h : Nat) : List Cell := (List.range h).map fun (j : Nat) => (x, (j : Int))
theorem colC_ok (x : Int) (h : Nat) : ColOk x h (colC x h) := by
  refine ⟨?_, ?_, by simp [colC]⟩
  · unfold colC
    refine (List.nodup_range (n := h)).map (f := fun (j : Nat) => ((x, (j : Int)) : Cell)) fun a b ne e => ne ?_
    simp only [Prod.mk.injEq, true_and] at e
    omega
  · intro c hc
    simp only [colC, List.mem_map, List.mem_range] at hc
    obtain ⟨j, hj, rfl⟩ := hc
    simp; omega
theorem draw_apart_ok {a b : Nat} {S : Store} (m : Nat) (hm : 2 ≤ m ∧ m ≤ 7) (h : SrcAt S a b) : W (m__law_draw_apart [.loc a, .int m] S) fun p => ∃ l, p.1 = .tup (csD l) ∧ Fr [a, b] S p.2 ∧ SrcAt p.2 a b ∧ PicOk m l := by
  rw [m__law_draw_apart, w_runM]
  simp [b__law_draw_apart]
  refine (pick_ok 6 (by omega) h).imp ?_
  rintro ⟨d1, S1⟩ ⟨road, rfl, r0, r1, sa1, f1⟩
  dsimp only at sa1 f1
  simp
  refine ⟨fun hr => (draw_picture_ok m (by omega) sa1).imp ?_, fun hr => ?_⟩
  · rintro ⟨d, S2⟩ ⟨l, rfl, f, sa, pk⟩
    exact ⟨l, rfl, f1.trans f, sa, pk⟩
  refine (pick_ok ((m : Int) - 1) (by omega) sa1).imp ?_
  rintro ⟨d2, S2⟩ ⟨w, rfl, w0, w1, sa2, f2⟩
  dsimp only at sa2 f2
  simp
  refine (pick_ok ((m : Int) - 1) (by omega) sa2).imp ?_
  rintro ⟨d3, S3⟩ ⟨g, rfl, g0, g1, sa3, f3⟩
  dsimp only at sa3 f3
  simp [most]
  have fS := (f1.trans f2).trans f3
  obtain ⟨W1, hW⟩ : ∃ k : Nat, (2 + w).toNat = k ∧ k ≤ m := ⟨_, rfl, by omega⟩
  obtain ⟨G1, hG⟩ : ∃ k : Nat, 2 + g = (k : Int) ∧ k ≤ m := ⟨(2 + g).toNat, by omega, by omega⟩
  obtain ⟨lSa, lSb⟩ := h.lt
  rw [hW.1, hG.1]
  refine ⟨by simp [rg62]; omega, ?_⟩
  have er : (rgL 0 W1).length = W1 := by simp [rgL]
  have lf := fS.len
  refine W.imp (Q := fun r => r.1 = .nx ∧ Fr [a, b] S r.2.2 ∧ SrcAt r.2.2 a b ∧ ∃ n l u, List.length S ≤ n ∧ At r.2.2 n (.lst (csD l)) ∧ GrdOk W1 G1 l ∧ ∃ v, r.2.1 = [some (.loc a), some (.int m), some (.int road), some (.int (2 + w)), some (.int G1), some (.loc n), u, none, none, none, none, none, v, none])
    (for_rule (xs := rgL 0 W1) (fun i σ S' => Fr [a, b] S S' ∧ SrcAt S' a b ∧ ∃ n l u, List.length S ≤ n ∧ At S' n (.lst (csD l)) ∧ GrdOk i G1 l ∧ ∃ v, σ = [some (.loc a), some (.int m), some (.int road), some (.int (2 + w)), some (.int G1), some (.loc n), u, none, none, none, none, none, v, none]) LF (by rw [er]; simp [LF]; omega) ?_ ?_ ?_ ?_) ?_
  · rintro i σ S' _; exact items_rng 0 _ S' S' (.refl _) i
  · rintro i x σ S' hx ⟨f, sa, n, l, u, hn, hl, gr, v, rfl⟩
    obtain ⟨hi, rfl⟩ := rg_get hx
    simp only [w_setV, w_seqV, w_asgV, w_bind2, w_slot, List.set_cons_zero, List.set_cons_succ, List.getElem?_cons_zero, List.getElem?_cons_succ, Option.some.injEq, exists_eq_left']
    refine (lc_map (rgL 0 G1) (fun d => .tup [.int i, d]) (by simp [rgL, LF]; omega) (by simp [rgL, most]; omega) ?_ ?_).imp ?_
    · simp [Pre1.refl]
      exact ⟨by simp [rg62]; omega, items_rng _ _ _⟩
    · intro j y hy S2 p
      simp [wipeD, most, Pre1.refl]
    · rintro ⟨d, S4⟩ ⟨k, rfl, p4, hk, h4⟩
      dsimp only at p4 h4
      have e : (rgL 0 G1).map (fun d => D.tup [.int (0 + i), d]) = csD (colC i G1) := by
        simp [rgL, colC]
      have e' : (rgL 0 G1).map (fun d => D.tup [.int i, d]) = csD (colC i G1) := by
        simp [rgL, colC]
      rw [e'] at h4
      have gc := gr.col (colC_ok i G1)
      have hlen := Nat.le_trans gc.len (Nat.mul_le_mul (show i + 1 ≤ 7 by omega) (show G1 ≤ 7 by omega))
      simp only [w_bin_add]
      refine w_add_lst (hl.pre p4) h4 (by simp at hlen ⊢; simp [most]; omega) ?_
      simp
      refine ⟨(f.trans (.pre p4)).app _, (sa.pre p4).pre (List.prefix_append _ _), List.length S4, ?_, l ++ colC i G1, ?_, gc, rfl⟩
      · have := f.len; have := p4.len; omega
      · simp [At]
  · rintro σ S' ⟨f, sa, n, l, u, hn, hl, gr, v, rfl⟩
    rw [er] at gr
    exact ⟨rfl, f, sa, n, l, u, hn, hl, gr, v, rfl⟩
  · exact ⟨fS.app _, sa3.pre (List.prefix_append _ _), _, [], none, lf, At.new _ _, ⟨by simp, by simp, by simp⟩, none, rfl⟩
  · rintro ⟨r, σ, S'⟩ ⟨rfl, f, sa, n, l, u, hn, hl, gr, v, e⟩
    simp only at f sa hl e
    subst e
    have hlen := Nat.le_trans gr.len (Nat.mul_le_mul (show W1 ≤ 7 by omega) (show G1 ≤ 7 by omega))
    simp [PK0, cmpD, -w_lcE]
    refine .of (eq_en (α := Int) (by decide) road 5 S') ?_
    simp [-w_lcE]
    have hl400 : l.length < LF := by simp at hlen; simp [LF]; omega
    have hlm : l.length ≤ most := by simp at hlen; simp [most]; omega
    obtain ⟨la, lb⟩ := sa.lt
    have hsrc : W (seqIV (slotE 5) [some (.loc a), some (.int m), some (.int road), some (.int (2 + w)), some (.int G1), some (.loc n), u, none, none, none, none, none, v, none] S') fun p => p.2 = S' ∧ ∀ S2, Fr [a, b] S' S2 → ∀ i : Nat, nextS S2 p.1 i = some (csD l)[i]? := by
      simp [srcD_lst hl]
      intro S2 f2 i
      have := items_lst (f2.at hl (by simp; omega)) S2 (.refl _) i
      simpa using this
    refine ⟨fun h5 => ?_, fun h5 => ?_⟩
    · refine (lc_sub (a := a) (b := b) l hl400 hlm sa hsrc ?_).imp ?_
      · intro c hc S2 f2 sa2
        simp [wipeD]
        refine (pick_ok 9 (by omega) sa2).imp ?_
        rintro ⟨d, S4⟩ ⟨z, rfl, z0, z1, sa4, f4⟩
        simp
        exact ⟨f4, sa4⟩
      · rintro ⟨d, S2⟩ ⟨k, r, rfl, f2, sa2, hk, h2, s⟩
        simp [tupleG, seqD, h2]
        exact ⟨r, rfl, f.trans f2, sa2, (gr.sub s).pic hW.2 hG.2⟩
    · obtain ⟨rim, hrim⟩ : ∃ f : Cell → Bool, ∀ c, f c = (decide (c.1 ∈ [0, 2 + w - 1]) || decide (c.2 ∈ [0, (G1 : Int) - 1])) := ⟨_, fun _ => rfl⟩
      refine (lc_pure (csD l) (fun d => if rim (dC d) then some d else none) (by simpa using hl400) (by simpa using hlm) ?_ ?_).imp ?_
      · simp [srcD_lst hl, Pre1.refl]; exact items_lst hl
      · intro i x hx S2 p
        obtain ⟨c, hc, rfl⟩ := csD_get hx
        simp [wipeD]
        refine .of (a := (.int c.1, S2)) rfl ⟨by simp [most], .of (in_tup_en (α := Int) (by decide) false c.1 [0, 2 + w - 1] S2) ?_⟩
        simp only [blK_bl, flipB]
        refine ⟨fun h1 => ?_, fun h1 => .of (a := (.int c.2, S2)) rfl ⟨by simp [most], .of (in_tup_en (α := Int) (by decide) false c.2 [0, (G1 : Int) - 1] S2) ?_⟩⟩
        · have : rim c = true := by rw [hrim]; simp only [if_false, Bool.false_eq_true] at h1; rw [h1]; rfl
          simp [this, Pre1.refl]
        · have : rim c = decide (c.2 ∈ [0, (G1 : Int) - 1]) := by rw [hrim]; simp only [if_false, Bool.false_eq_true] at h1; rw [h1]; rfl
          simp only [blK_bl, flipB, ← this, if_false, Bool.false_eq_true]
          by_cases hr : rim c = true <;> simp [hr, Pre1.refl]
      · rintro ⟨d, S2⟩ ⟨k, rfl, p2, hk, h2⟩
        dsimp only at p2 h2 ⊢
        rw [filt_map rim _ (fun c => rfl)] at h2
        have sa2 := sa.pre p2
        have hl2 := hl.pre p2
        have hkb : k ≠ a ∧ k ≠ b := ⟨by omega, by omega⟩
        refine (lc_sub (a := a) (b := b) l hl400 hlm sa2 ?_ ?_).imp ?_
        · simp [srcD_lst hl2]
          intro S4 f4 i
          have := items_lst (f4.at hl2 (by simp; omega)) S4 (.refl _) i
          simpa using this
        · intro c hc S4 f4 sa4
          simp [wipeD]
          have hk4 := f4.at h2 (by simp [hkb])
          refine .of (in_lst_en (α := Cell) (by decide) false c (l.filter rim) hk4) ?_
          simp only [blK_bl, flipB, if_false, Bool.false_eq_true]
          refine ⟨fun _ => ⟨.refl _ _, sa4⟩, fun _ => ?_⟩
          refine (pick_ok 4 (by omega) sa4).imp ?_
          rintro ⟨d, S5⟩ ⟨z, rfl, z0, z1, sa5, f5⟩
          refine .of (eq_en (α := Int) (by decide) z 0 S5) ?_
          simp
          exact ⟨f5, sa5⟩
        · rintro ⟨d, S4⟩ ⟨k2, r, rfl, f4, sa4, hk2, h4, s⟩
          simp [tupleG, seqD, h4]
          exact ⟨r, rfl, (f.trans (.pre p2)).trans f4, sa4, (gr.sub s).pic hW.2 hG.2⟩
end RF

end

/-! ## M05i -/
section
set_option maxRecDepth 100000
namespace RF
open PySem PySem.W L2
theorem fmin_box {m : Int} : ∀ (l : List Int) (z : Int), (∀ x ∈ l, 0 ≤ x ∧ x < m) → 0 ≤ z → z < m → 0 ≤ l.foldl min z ∧ l.foldl min z < m
  | [], z, _, h1, h2 => ⟨h1, h2⟩
  | x :: l, z, h, h1, h2 => by
    have := h x List.mem_cons_self
    exact fmin_box l (min z x) (fun y hy => h y (List.mem_cons_of_mem _ hy)) (by omega) (by omega)
theorem fmax_box {m : Int} : ∀ (l : List Int) (z : Int), (∀ x ∈ l, 0 ≤ x ∧ x < m) → 0 ≤ z → z < m → 0 ≤ l.foldl max z ∧ l.foldl max z < m
  | [], z, _, h1, h2 => ⟨h1, h2⟩
  | x :: l, z, h, h1, h2 => by
    have := h x List.mem_cons_self
    exact fmax_box l (max z x) (fun y hy => h y (List.mem_cons_of_mem _ hy)) (by omega) (by omega)
theorem least_box {m : Int} {l : List Int} (hl : l ≠ []) (h : ∀ x ∈ l, 0 ≤ x ∧ x < m) : ∃ z, leastI l = some (.int z) ∧ 0 ≤ z ∧ z < m := by
  cases l with
  | nil => exact absurd rfl hl
  | cons a r =>
    have ha := h a List.mem_cons_self
    have := fmin_box r a (fun y hy => h y (List.mem_cons_of_mem _ hy)) ha.1 ha.2
    exact ⟨_, rfl, this⟩
theorem most_box {m : Int} {l : List Int} (hl : l ≠ []) (h : ∀ x ∈ l, 0 ≤ x ∧ x < m) : ∃ z, mostI l = some (.int z) ∧ 0 ≤ z ∧ z < m := by
  cases l with
  | nil => exact absurd rfl hl
  | cons a r =>
    have ha := h a List.mem_cons_self
    have := fmax_box r a (fun y hy => h y (List.mem_cons_of_mem _ hy)) ha.1 ha.2
    exact ⟨_, rfl, this⟩
theorem min_lst {S : Store} {n : Nat} {l : List Int} {z : Int} {Q : D × Store → Prop} (h : At S n (.lst (l.map .int))) (hz : leastI l = some (.int z)) (q : Q (.int z, S)) : W (orG min2G (overG intsOf leastI) [.loc n] S) Q := by
  have e : min2G [.loc n] S = none := rfl
  simp only [orG, e, overG, lstD, h, intsOf_ints, hz, W_some]; exact q
theorem max_lst {S : Store} {n : Nat} {l : List Int} {z : Int} {Q : D × Store → Prop} (h : At S n (.lst (l.map .int))) (hz : mostI l = some (.int z)) (q : Q (.int z, S)) : W (orG max2G (overG intsOf mostI) [.loc n] S) Q := by
  have e : max2G [.loc n] S = none := rfl
  simp only [orG, e, overG, lstD, h, intsOf_ints, hz, W_some]; exact q
theorem frame_ok {l : List Cell} {m : Nat} (hm : 1 ≤ m ∧ m ≤ 7) (pk : PicOk m l) (S : Store) : W (m__law_frame [.tup (csD l)] S) fun p => ∃ r, r.length ≤ 121 ∧ Lst (csD r) S p := by
  rw [m__law_frame, w_runM]
  have hl : l.length ≤ 49 := Nat.le_trans pk.len (Nat.mul_le_mul hm.2 hm.2)
  simp only [b__law_frame, w_seqV, w_parV, w_consA, w_bind2, w_nilA]
  refine ⟨rfl, (lc_map (csD l) (fun d => .int (dC d).1) (by simp [LF]; omega) (by simp [most]; omega) ?_ ?_).imp ?_⟩
  · simp [srcD, Pre1.refl]; exact items_tup _ _
  · intro i x hx S' p
    obtain ⟨c, hc, rfl⟩ := csD_get hx
    simp [wipeD, Pre1.refl]
  rintro ⟨d, S1⟩ ⟨n1, rfl, p1, _, h1⟩
  dsimp only at p1 h1 ⊢
  have e1 : (csD l).map (fun d => D.int (dC d).1) = (l.map (·.1)).map D.int := by simp [csD]
  rw [e1] at h1
  simp [-w_lcE]
  refine ⟨by simp [most], w_add_lst (h1.app _) (At.new S1 _) (by simp [most]; omega) ?_⟩
  refine (lc_map (csD l) (fun d => .int (dC d).2) (by simp [LF]; omega) (by simp [most]; omega) ?_ ?_).imp ?_
  · simp [srcD, Pre1.refl]; exact items_tup _ _
  · intro i x hx S' p
    obtain ⟨c, hc, rfl⟩ := csD_get hx
    simp [wipeD, Pre1.refl]
  rintro ⟨d, S2⟩ ⟨n2, rfl, p2, _, h2⟩
  dsimp only at p2 h2 ⊢
  have e2 : (csD l).map (fun d => D.int (dC d).2) = (l.map (·.2)).map D.int := by simp [csD]
  rw [e2] at h2
  have hX : At (S1 ++ [O.lst [.int 0]] ++ [O.lst ((l.map (·.1)).map D.int ++ [.int 0])]) (List.length (S1 ++ [O.lst [.int 0]])) (.lst (((l.map fun c : Cell => c.1) ++ [0]).map .int)) := by
    rw [List.map_append]; exact At.new _ _
  have hX2 := hX.pre p2
  refine ⟨by simp [most], w_add_lst (h2.app _) (At.new S2 _) (by simp [most]; omega) ?_⟩
  have hY : At (S2 ++ [O.lst [.int 0]] ++ [O.lst ((l.map (·.2)).map D.int ++ [.int 0])]) (List.length (S2 ++ [O.lst [.int 0]])) (.lst (((l.map fun c : Cell => c.2) ++ [0]).map .int)) := by
    rw [List.map_append]; exact At.new _ _
  have bx : ∀ x ∈ (l.map (·.1) : List Int) ++ [0], 0 ≤ x ∧ x < (m : Int) := by
    intro x hx
    rcases List.mem_append.mp hx with h | h
    · obtain ⟨c, hc, rfl⟩ := List.mem_map.mp h
      have := pk.box c hc; omega
    · simp at h; omega
  have bY : ∀ x ∈ (l.map (·.2) : List Int) ++ [0], 0 ≤ x ∧ x < (m : Int) := by
    intro x hx
    rcases List.mem_append.mp hx with h | h
    · obtain ⟨c, hc, rfl⟩ := List.mem_map.mp h
      have := pk.box c hc; omega
    · simp at h; omega
  obtain ⟨x0, ex0, hx0⟩ := least_box (by simp) bx
  obtain ⟨x1, ex1, hx1⟩ := most_box (by simp) bx
  obtain ⟨y0, ey0, hy0⟩ := least_box (by simp) bY
  obtain ⟨y1, ey1, hy1⟩ := most_box (by simp) bY
  have hX3 := ((hX2.app [O.lst [.int 0]]).app [O.lst ((l.map (·.2)).map D.int ++ [.int 0])]).app [O.lst []]
  have hY3 := hY.app [O.lst []]
  refine min_lst hX3 ex0 ?_
  simp only [w_bin_sub]
  refine max_lst hX3 ex1 ?_
  simp only [w_add_int, rg2K_two]
  refine ⟨by simp [rg62]; omega, ?_⟩
  generalize hSb : S2 ++ [O.lst [.int 0]] ++ [O.lst ((l.map (·.2)).map D.int ++ [.int 0])] = Sb at *
  generalize List.length (S1 ++ [O.lst [.int 0]]) = nx at *
  generalize List.length (S2 ++ [O.lst [.int 0]]) = ny at *
  have pS : Pre1 S Sb := by
    rw [← hSb]
    exact ((((p1.app _).app _).trans p2).app _).app _
  obtain ⟨W1, hW, hW1⟩ : ∃ k : Nat, (x1 + 3 - (x0 - 2)).toNat = k ∧ k ≤ 11 := ⟨_, rfl, by omega⟩
  obtain ⟨G1, hG, hG1⟩ : ∃ k : Nat, (y1 + 3 - (y0 - 2)).toNat = k ∧ k ≤ 11 := ⟨_, rfl, by omega⟩
  rw [hW]
  have er : (rgL (x0 - 2) W1).length = W1 := by simp [rgL]
  have er2 : (rgL (y0 - 2) G1).length = G1 := by simp [rgL]
  refine for_rule (xs := rgL (x0 - 2) W1) (fun i σ S' => Pre1 Sb S' ∧ ∃ n r u v, List.length Sb ≤ n ∧ At S' n (.lst (csD r)) ∧ r.length ≤ i * G1 ∧ σ = [some (.tup (csD l)), u, some (.loc nx), some (.loc ny), some (.loc n), none, none, none, v]) LF (by rw [er]; simp [LF]; omega) ?_ ?_ ?_ ?_
  · rintro i σ S' _; exact items_rng _ _ S' S' (.refl _) i
  · rintro i x σ S' hx ⟨p, n, r, u, v, hn, hr, hrl, rfl⟩
    obtain ⟨hi, rfl⟩ := rg_get hx
    simp only [w_setV, w_seqV, w_asgV, w_bind2, w_slot, List.set_cons_zero, List.set_cons_succ, List.getElem?_cons_zero, List.getElem?_cons_succ, Option.some.injEq, exists_eq_left']
    have hY4 : At S' ny (.lst (((l.map fun c : Cell => c.2) ++ [0]).map .int)) := hY.pre p
    refine (lc_map (rgL (y0 - 2) G1) (fun d => .tup [.int (x0 - 2 + i), d]) (by rw [er2]; simp [LF]; omega) (by rw [er2]; simp [most]; omega) ?_ ?_).imp ?_
    · simp
      refine min_lst hY4 ey0 ?_
      simp
      refine max_lst hY4 ey1 ?_
      simp
      rw [hG]
      exact ⟨by simp [rg62]; omega, items_rng _ _ _⟩
    · intro j y hy S4 p
      simp [wipeD, most, Pre1.refl]
    · rintro ⟨d, S4⟩ ⟨k, rfl, p4, hk, h4⟩
      dsimp only at p4 h4
      have e' : (rgL (y0 - 2) G1).map (fun d => D.tup [.int (x0 - 2 + i), d]) = csD ((List.range G1).map fun (j : Nat) => ((x0 - 2 + i, y0 - 2 + j) : Cell)) := by
        simp [rgL]
      rw [e'] at h4
      have hm1 : i * G1 ≤ 11 * 11 := Nat.mul_le_mul (by omega) hG1
      simp only [w_bin_add]
      refine w_add_lst (hr.pre p4) h4 (by simp [most]; omega) ?_
      simp
      refine ⟨(p.trans p4).app _, List.length S4, ?_, r ++ (List.range G1).map fun (j : Nat) => ((x0 - 2 + i, y0 - 2 + j) : Cell), ?_, ?_, rfl⟩
      · have := p.len; have := p4.len; omega
      · simp [At]
      · simp [Nat.succ_mul]; omega
  · rintro σ S' ⟨p, n, r, u, v, hn, hr, hrl, rfl⟩
    rw [er] at hrl
    simp
    have hm1 : W1 * G1 ≤ 11 * 11 := Nat.mul_le_mul (by omega) hG1
    exact ⟨r, by omega, n, rfl, pS.trans p, by have := pS.len; omega, hr⟩
  · exact ⟨List.prefix_append _ _, _, [], none, none, Nat.le_refl _, At.new _ _, by simp, rfl⟩
end RF

end

/-! ## M05j -/
section
set_option maxRecDepth 100000
namespace RF
open PySem PySem.W L2
def bitN (c i : Nat) : Bool := c / 2 ^ i % 2 == 1
def ofB (f : Nat → Bool) : Nat := (f 0).toNat + 2 * (f 1).toNat + 4 * (f 2).toNat + 8 * (f 3).toNat + 16 * (f 4).toNat + 32 * (f 5).toNat + 64 * (f 6).toNat + 128 * (f 7).toNat
/-- where the number i of a turned round comes from -/
def fromT (t i : Nat) : Nat := if t < 4 then (i + 8 - 2 * t) % 8 else (12 - (i + 8 - 2 * (t - 4)) % 8) % 8
def tcN (c t : Nat) : Nat := ofB fun i => bitN c (fromT t i)
def roundC (c : Nat) : List Cell := ((List.range 8).filter (bitN c)).map fun i => (nearC (0, 0)).getD i (0, 0)
structure CodesOk : Prop where
  right : ∀ c : Nat, c < 256 → ∀ S, W (m__law_code_right [.int c] S) (Val (.bl true) S)
  sim : SimOk
  codes : ∀ S, W (m_simple_codes [] S) (Val (.tup ((((List.range 256).map Int.ofNat).filter simI).map D.int)) S)
  turned : ∀ c t : Nat, c < 256 → t < 8 → ∀ S, W (m_turned_code [.int c, .int t] S) (Val (.int (tcN c t)) S)
  round : ∀ c : Nat, c < 256 → ∀ S, W (m__law_round [.int c] S) (Lst (csD (roundC c)) S)
def turnOk (c t : Nat) : Bool := decide (codeL ((roundC c).map (turnC t)) (0, 0) = (tcN c t : Int))
theorem turnOk_all : ((List.range 256).all fun c => (List.range 8).all fun t => turnOk c t) = true := by decide +kernel
theorem turn_ok {c t : Nat} (hc : c < 256) (ht : t < 8) : codeL ((roundC c).map (turnC t)) (0, 0) = (tcN c t : Int) := by
  have := turnOk_all
  rw [List.all_eq_true] at this
  have := this c (by simpa using hc)
  rw [List.all_eq_true] at this
  have := this t (by simpa using ht)
  exact of_decide_eq_true this
/-- the code of a turned picture at a turned cell -/
theorem codeL_eq (l : List Cell) (c : Cell) : codeL l c = (ofB fun i => decide ((nearC c).getD i (0, 0) ∈ l) : Nat) := by
  have e : ∀ p : Prop, [Decidable p] → (if p then (1 : Int) else 0) = ((decide p).toNat : Int) := by
    intro p _
    by_cases h : p <;> simp [h]
  have e2 : ∀ (p : Prop) (k : Int), [Decidable p] → (if p then k else 0) = k * ((decide p).toNat : Int) := by
    intro p k _
    by_cases h : p <;> simp [h]
  simp only [codeL, cuN, ofB, e2]
  push_cast
  omega
theorem bitN_ofB (f : Nat → Bool) : ∀ i, i < 8 → bitN (ofB f) i = f i := by
  intro i hi
  have h : ∀ b : Bool, b.toNat = 0 ∨ b.toNat = 1 := fun b => by cases b <;> simp
  unfold bitN ofB
  have key : ∀ b0 b1 b2 b3 b4 b5 b6 b7 : Bool, ∀ j : Fin 8, (((b0.toNat + 2 * b1.toNat + 4 * b2.toNat + 8 * b3.toNat + 16 * b4.toNat + 32 * b5.toNat + 64 * b6.toNat + 128 * b7.toNat) / 2 ^ j.val % 2 == 1) : Bool) = (match j with | 0 => b0 | 1 => b1 | 2 => b2 | 3 => b3 | 4 => b4 | 5 => b5 | 6 => b6 | 7 => b7) := by decide +kernel
  match i, hi with
  | 0, _ => exact key _ _ _ _ _ _ _ _ 0
  | 1, _ => exact key _ _ _ _ _ _ _ _ 1
  | 2, _ => exact key _ _ _ _ _ _ _ _ 2
  | 3, _ => exact key _ _ _ _ _ _ _ _ 3
  | 4, _ => exact key _ _ _ _ _ _ _ _ 4
  | 5, _ => exact key _ _ _ _ _ _ _ _ 5
  | 6, _ => exact key _ _ _ _ _ _ _ _ 6
  | 7, _ => exact key _ _ _ _ _ _ _ _ 7
theorem fromT_lt (t i : Nat) : fromT t i < 8 := by unfold fromT; split <;> omega
theorem near_turn (t : Nat) (ht : t < 8) (c : Cell) (i : Nat) (hi : i < 8) : (nearC (turnC t c)).getD i (0, 0) = turnC t ((nearC c).getD (fromT t i) (0, 0)) := by
  obtain ⟨x, y⟩ := c
  match t, ht with
  | 0, _ | 1, _ | 2, _ | 3, _ | 4, _ | 5, _ | 6, _ | 7, _ =>
    match i, hi with
    | 0, _ | 1, _ | 2, _ | 3, _ | 4, _ | 5, _ | 6, _ | 7, _ => simp [turnC, rotN, rotC, mirC, nearC, fromT]; try omega
theorem ofB_congr {f g : Nat → Bool} (h : ∀ i, i < 8 → f i = g i) : ofB f = ofB g := by
  simp only [ofB, h 0 (by omega), h 1 (by omega), h 2 (by omega), h 3 (by omega), h 4 (by omega), h 5 (by omega), h 6 (by omega), h 7 (by omega)]
theorem code_turned {t : Nat} (ht : t < 8) (l l' : List Cell) (hl : ∀ x, x ∈ l' ↔ x ∈ l.map (turnC t)) (c : Cell) : codeL l' (turnC t c) = (tcN (codeL l c).toNat t : Int) := by
  rw [codeL_eq, codeL_eq, Int.toNat_natCast]
  unfold tcN
  congr 1
  apply ofB_congr
  intro i hi
  rw [bitN_ofB _ _ (fromT_lt t i), near_turn t ht c i hi]
  apply decide_eq_decide.mpr
  rw [hl, List.mem_map]
  exact ⟨fun ⟨x, hx, e⟩ => turnC_inj e ▸ hx, fun h => ⟨_, h, rfl⟩⟩
end RF

end

/-! ## M05k -/
section
set_option maxRecDepth 100000
namespace RF
open PySem PySem.W L2
theorem ints256 {ds : List D} (h : ∀ x ∈ ds, x ∈ rgL 0 256) : ∃ cl : List Nat, ds = cl.map (fun c : Nat => D.int c) ∧ ∀ c ∈ cl, c < 256 := by
  induction ds with
  | nil => exact ⟨[], rfl, by simp⟩
  | cons d r ih =>
    obtain ⟨cl, e, h2⟩ := ih fun x hx => h x (List.mem_cons_of_mem _ hx)
    have := h d List.mem_cons_self
    simp only [rgL, List.mem_map, List.mem_range] at this
    obtain ⟨k, hk, rfl⟩ := this
    refine ⟨k :: cl, by rw [List.map_cons, ← e]; simp, fun c hc => ?_⟩
    rcases List.mem_cons.mp hc with rfl | hc
    · exact hk
    · exact h2 c hc
theorem cutL_mem {α : Type} {xs : List α} {lo hi : Option Int} {x : α} (h : x ∈ cutL xs lo hi) : x ∈ xs := List.mem_of_mem_drop (List.mem_of_mem_take h)
theorem cutL_len {α : Type} (xs : List α) (lo hi : Option Int) : (cutL xs lo hi).length ≤ xs.length := by
  simp only [cutL, List.length_take, List.length_drop]; omega
theorem slice_lst {S : Store} {n : Nat} {ds : List D} {lo hi : Option Int} {Q : D × Store → Prop} (h : At S n (.lst ds)) (q : Q (.loc (List.length S), S ++ [.lst (cutL ds lo hi)])) : W (sliceD (.loc n) lo hi S) Q := by
  simp only [sliceD, h, W_some]; exact q
theorem any_false {S : Store} {n m : Nat} {Q : D × Store → Prop} (h : At S n (.lst (List.replicate m (.bl false)))) (q : Q (.bl false, S)) : W (overG blsOf anyB [.loc n] S) Q := by
  have e : ∀ m, blsOf (List.replicate m (.bl false)) = some (List.replicate m false) := by
    intro m
    induction m with
    | zero => rfl
    | succ m ih => simp only [List.replicate_succ, blsOf, ih]
  have e2 : ∀ m, (List.replicate m false).any id = false := by
    intro m
    induction m with
    | zero => rfl
    | succ m ih => simp [List.replicate_succ]
  simp only [overG, lstD, h, e, anyB, e2, W_some]; exact q
theorem map_bl (l : List Nat) : (l.map (fun c : Nat => D.int c)).map (fun _ => D.bl false) = List.replicate l.length (.bl false) := by
  induction l with
  | nil => rfl
  | cons a r ih => simp only [List.map_cons, List.length_cons, List.replicate_succ, ih]
theorem cells_of {fr : List Cell} : ∀ {ds : List D}, (∀ x ∈ ds, x ∈ csD fr) → ∃ cs : List Cell, ds = csD cs
  | [], _ => ⟨[], rfl⟩
  | d :: r, h => by
    obtain ⟨cs, e⟩ := cells_of (ds := r) fun x hx => h x (List.mem_cons_of_mem _ hx)
    obtain ⟨c, _, hc⟩ := List.mem_map.mp (h d List.mem_cons_self)
    exact ⟨c :: cs, by rw [e, ← hc]; rfl⟩
theorem repr_bl (b : Bool) (S : Store) : reprG [.bl b] S = some (.str (if b then "True" else "False"), S) := rfl
theorem repr_ne (b : Bool) (S : Store) : eqD true (.str (if b then "True" else "False")) (.str (if b then "True" else "False")) S = some (.bl false, S) := by
  have h1 : PySem.PyData.strOk ("True" : Str) = true := by decide +kernel
  have h2 : PySem.PyData.strOk ("False" : Str) = true := by decide +kernel
  have e : ∀ x : Str, PyData.eqv (.str x) (.str x) = true := fun x => by
    exact (Datum.eqv (α := Str) x x).trans (decide_eq_true rfl)
  cases b
  · simp only [eqD, py, toPy_str, if_false, Bool.false_eq_true, h2, if_true, e]; rfl
  · simp only [eqD, py, toPy_str, h1, if_true, e]; rfl
theorem law_ok (H : CodesOk) {S : Store} {n : Nat} {ns : List Int} (h : At S n (.fro (ns.map .int))) (hl : ns.length ≤ 63) : W (m_law [.loc n] S) fun p => p.1 = .bl true := by
  rw [m_law, w_runM]
  simp only [b_law, w_seqV, w_asgV, w_callE, w_consA, w_nilA]
  refine ⟨rfl, ?_⟩
  simp [-w_lcE]
  refine (open_ok h hl).imp ?_
  rintro ⟨d, S1⟩ ⟨a, b, rfl, sa1, p1⟩
  dsimp only at sa1 p1
  simp [listRg, valE, consA, nilA, rng1IV, rg62, most, -w_lcE]
  have hr := At.new S1 (.lst (rgL 0 256))
  refine (any_order_ok (xs := rgL 0 256) (sa1.pre (List.prefix_append _ _)) (by simp only [seqD, hr]) (by simp [rgL])).imp ?_
  rintro ⟨d, S2⟩ ⟨k, ds, rfl, f2, sa2, hk, hds, hlen, hin⟩
  dsimp only at f2 sa2 hds
  simp [-w_lcE]
  refine slice_lst hds ?_
  obtain ⟨cl, ecl, hcl⟩ := ints256 (ds := cutL ds none (some 40)) fun x hx => hin x (cutL_mem hx)
  have hll : cl.length ≤ 256 := by
    have := cutL_len ds none (some 40)
    rw [ecl] at this
    simp [rgL] at hlen this; omega
  rw [ecl]
  generalize hS3 : S2 ++ [O.lst (cl.map (fun c : Nat => D.int c))] = S3
  have hc3 : At S3 (List.length S2) (.lst (cl.map (fun c : Nat => D.int c))) := by rw [← hS3]; exact At.new _ _
  have sa3 : SrcAt S3 a b := by rw [← hS3]; exact sa2.pre (List.prefix_append _ _)
  generalize List.length S2 = kc at *
  simp [-w_lcE]
  refine (lc_map (cl.map (fun c : Nat => D.int c)) (fun _ => .bl false) (by simp [LF]; omega) (by simp [most]; omega) ?_ ?_).imp ?_
  · simp [srcD_lst hc3, Pre1.refl]
    have := items_lst hc3
    simpa using this
  · intro i x hx S' p
    rw [List.getElem?_map] at hx
    cases hs : cl[i]? with
    | none => rw [hs] at hx; cases hx
    | some c =>
      rw [hs] at hx
      cases hx
      simp [wipeD]
      refine (H.right c (hcl c (List.mem_of_getElem? hs)) S').imp ?_
      rintro ⟨d, S4⟩ ⟨e, p4⟩
      simp only at e p4
      subst e
      simp [p4]
  rintro ⟨d, S4⟩ ⟨k4, rfl, p4, _, h4⟩
  dsimp only at p4 h4 ⊢
  have ef : (cl.map (fun c : Nat => D.int c)).map (fun _ => D.bl false) = List.replicate cl.length (.bl false) := by
    exact map_bl cl
  rw [ef] at h4
  refine any_false h4 ?_
  simp only [trK_bl, true_and]
  intro _
  refine (H.codes S4).imp ?_
  rintro ⟨d, S5⟩ ⟨e, p5⟩
  simp only at e p5
  subst e
  refine (lc_pure (rgL 0 256) (fun d => match d with | .int c => if simI c then some (.int c) else none | _ => none) (by simp [rgL, LF]) (by simp [rgL, most]) ?_ ?_).imp ?_
  · simp [rg62, Pre1.refl]; exact items_rng _ _ _
  · intro i x hx S' p
    obtain ⟨hi, rfl⟩ := rg_get hx
    simp [wipeD]
    refine ((H.sim (i : Int) (by omega) (by omega) S').2).imp ?_
    rintro ⟨d, S6⟩ ⟨e, p6⟩
    simp only at e p6
    subst e
    by_cases hs : simI (i : Int) = true <;> simp [hs, p6]
  rintro ⟨d, S6⟩ ⟨k6, rfl, p6, _, h6⟩
  dsimp only at p6 h6 ⊢
  have eg : (rgL 0 256).filterMap (fun d => match d with | .int c => if simI c then some (D.int c) else none | _ => none) = (((List.range 256).map Int.ofNat).filter simI).map D.int := by
    rw [rgL, List.filterMap_map]
    generalize List.range 256 = L
    induction L with
    | nil => rfl
    | cons a r ih =>
      simp only [List.filterMap_cons, Function.comp_def, List.map_cons, List.filter_cons] at ih ⊢
      have : (0 : Int) + (a : Nat) = Int.ofNat a := by simp
      rw [this]
      by_cases hs : simI (Int.ofNat a) = true <;> simp only [hs, if_true, if_false, Bool.false_eq_true, List.map_cons] <;> rw [ih]
  rw [eg] at h6
  refine .of (a := (.tup ((((List.range 256).map Int.ofNat).filter simI).map D.int), S6)) (by simp only [tupleG, seqD, h6]) ?_
  refine .of (ne_en (α := Tup Int) (by decide) ⟨((List.range 256).map Int.ofNat).filter simI⟩ ⟨((List.range 256).map Int.ofNat).filter simI⟩ S6) ?_
  simp only [blK_bl, decide_true, Bool.not_true, true_and]
  intro _
  have hc6 := ((hc3.pre p4).pre p5).pre p6
  have sa6 := ((sa3.pre p4).pre p5).pre p6
  refine slice_lst hc6 ?_
  rw [cutL_map]
  have hcl2 : ∀ c ∈ cutL cl none (some 12), c < 256 := fun c hc => hcl c (cutL_mem hc)
  have hll2 := cutL_len cl none (some 12)
  generalize cutL cl none (some 12) = cl2 at hcl2 hll2 ⊢
  have hc7 := At.new S6 (.lst (cl2.map (fun c : Nat => D.int c)))
  have sa7 := sa6.pre (List.prefix_append S6 [.lst (cl2.map (fun c : Nat => D.int c))])
  generalize S6 ++ [O.lst (cl2.map (fun c : Nat => D.int c))] = S7 at hc7 sa7 ⊢
  have ha7 : List.length S6 ≠ a ∧ List.length S6 ≠ b := by
    obtain ⟨q1, q2⟩ := sa6.lt
    exact ⟨by omega, by omega⟩
  generalize List.length S6 = k7 at hc7 ha7 ⊢
  refine ⟨_, srcD_lst hc7, ?_⟩
  refine W.imp (Q := fun r => r.1 = .nx ∧ SrcAt r.2.2 a b ∧ ∃ u3 u4 u5 u6, r.2.1 = [some (.loc n), some (.loc a), some (.loc kc), u3, u4, u5, u6, none, none, none, none, none, none, none, none, none, none, none, none, none, none, none, none, none, none, none, none, none, none, none, none, none])
    (for_rule (xs := cl2.map (fun c : Nat => D.int c)) (fun i σ S' => Fr [a, b] S7 S' ∧ SrcAt S' a b ∧ ∃ u3 u4 u5 u6, σ = [some (.loc n), some (.loc a), some (.loc kc), u3, u4, u5, u6, none, none, none, none, none, none, none, none, none, none, none, none, none, none, none, none, none, none, none, none, none, none, none, none, none]) LF (by simp [LF]; omega) ?_ ?_ ?_ ?_) ?_
  · rintro i σ S' ⟨f, _⟩
    have := items_lst (f.at hc7 (by simp [ha7])) S' (.refl _) i
    exact this
  · rintro i x σ S' hx ⟨f, sa, u3, u4, u5, u6, rfl⟩
    rw [List.getElem?_map] at hx
    cases hs : cl2[i]? with
    | none => rw [hs] at hx; cases hx
    | some c =>
      rw [hs] at hx
      cases hx
      have hc := hcl2 c (List.mem_of_getElem? hs)
      simp [-w_lcE]
      refine (pick_ok 8 (by omega) sa).imp ?_
      rintro ⟨d, S8⟩ ⟨t, rfl, t0, t1, sa8, f8⟩
      dsimp only at sa8 f8
      obtain ⟨tn, rfl, htn⟩ : ∃ tn : Nat, t = tn ∧ tn < 8 := ⟨t.toNat, by omega, by omega⟩
      simp [-w_lcE]
      refine (lc_map (csD (roundC c)) (fun d => cD (turnC tn (dC d))) ?_ ?_ ?_ ?_).imp ?_
      · have : (roundC c).length ≤ 8 := by
          simp only [roundC, List.length_map]
          exact Nat.le_trans (List.length_filter_le _ _) (by simp)
        simp [LF]; omega
      · have : (roundC c).length ≤ 8 := by
          simp only [roundC, List.length_map]
          exact Nat.le_trans (List.length_filter_le _ _) (by simp)
        simp [most]; omega
      · simp
        refine (H.round c hc S8).imp ?_
        rintro ⟨d, S9⟩ ⟨k9, rfl, p9, _, h9⟩
        dsimp only at p9 h9
        exact ⟨_, srcD_lst h9, p9, items_lst h9⟩
      · intro j y hy S' p
        obtain ⟨c', hc', rfl⟩ := csD_get hy
        simp [wipeD]
        refine (turned_ok tn htn c' S').imp ?_
        rintro ⟨d, S9⟩ ⟨e, p9⟩
        simp only at e p9
        subst e
        exact ⟨rfl, p9⟩
      rintro ⟨d, S9⟩ ⟨k9, rfl, p9, _, h9⟩
      dsimp only at p9 h9
      have e9 : (csD (roundC c)).map (fun d => cD (turnC tn (dC d))) = csD ((roundC c).map (turnC tn)) := by
        simp [csD, Function.comp_def]
      rw [e9] at h9
      simp [-w_lcE]
      refine (H.turned c tn hc htn S9).imp ?_
      rintro ⟨d, S10⟩ ⟨e, p10⟩
      simp only at e p10
      subst e
      simp [-w_lcE, most]
      have h10 := h9.pre p10
      refine (law_code_ok ((roundC c).map (turnC tn)) (0, 0) (.inr ⟨_, rfl, h10⟩) ?_).imp ?_
      · have : (roundC c).length ≤ 8 := by
          simp only [roundC, List.length_map]
          exact Nat.le_trans (List.length_filter_le _ _) (by simp)
        simp; omega
      rintro ⟨d, S11⟩ ⟨e, p11⟩
      simp only at e p11
      subst e
      rw [turn_ok hc htn]
      refine .of (ne_en (α := Int) (by decide) _ _ S11) ?_
      simp
      exact ⟨(f.trans f8).trans (.pre ((p9.trans p10).trans p11)), sa8.pre ((p9.trans p10).trans p11)⟩
  · rintro σ S' ⟨f, sa, u3, u4, u5, u6, rfl⟩
    exact ⟨rfl, sa, u3, u4, u5, u6, rfl⟩
  · exact ⟨.refl _ _, sa7, none, none, none, none, rfl⟩
  rintro ⟨r, σ, S8⟩ ⟨rfl, sa8, u3, u4, u5, u6, e⟩
  simp only at sa8 e
  subst e
  simp [-w_lcE]
  refine ⟨by simp [rg62], ?_⟩
  refine for_rule (xs := rgL 0 2) (fun i σ S' => SrcAt S' a b ∧ ∃ u3 u4 u5 u6 u7 u8 u9 u10, σ = [some (.loc n), some (.loc a), some (.loc kc), u3, u4, u5, u6, u7, u8, u9, u10, none, none, none, none, none, none, none, none, none, none, none, none, none, none, none, none, none, none, none, none, none]) LF (by simp [rgL, LF]) ?_ ?_ ?_ ?_
  · rintro i σ S' _; exact items_rng _ _ S' S' (.refl _) i
  · rintro i x σ S' hx ⟨sa, u3, u4, u5, u6, u7, u8, u9, u10, rfl⟩
    obtain ⟨hi, rfl⟩ := rg_get hx
    simp [-w_lcE]
    refine (draw_apart_ok 6 (by omega) sa).imp ?_
    rintro ⟨d, T1⟩ ⟨l, rfl, g1, ta1, pk⟩
    dsimp only at g1 ta1
    have hl36 : l.length ≤ 36 := pk.len
    simp [-w_lcE]
    refine (frame_ok (by omega) pk T1).imp ?_
    rintro ⟨d, T2⟩ ⟨fr, hfr, kf, rfl, pf, _, hf⟩
    dsimp only at pf hf
    simp [-w_lcE]
    refine (pick_ok 8 (by omega) (ta1.pre pf)).imp ?_
    rintro ⟨d, T3⟩ ⟨t, rfl, t0, t1, ta3, g3⟩
    dsimp only at ta3 g3
    have hkf : kf ≠ a ∧ kf ≠ b := by
      obtain ⟨q1, q2⟩ := ta1.lt
      exact ⟨by omega, by omega⟩
    have hf3 := g3.at hf (by simp [hkf])
    obtain ⟨tn, rfl, htn⟩ : ∃ tn : Nat, t = tn ∧ tn < 8 := ⟨t.toNat, by omega, by omega⟩
    simp [-w_lcE, most]
    refine (posed_ok tn htn T3 (by omega) pk.nd).imp ?_
    rintro ⟨d, T4⟩ ⟨e, p4⟩
    simp only at e p4
    subst e
    simp [-w_lcE, -List.map_map]
    refine (lc_map (csD l) (fun d => cD (turnC tn (dC d))) (by simp [LF]; omega) (by simp [most]; omega) ?_ ?_).imp ?_
    · simp [srcD, Pre1.refl]; exact items_tup _ _
    · intro j y hy S' p
      obtain ⟨c', hc', rfl⟩ := csD_get hy
      simp [wipeD]
      refine (turned_ok tn htn c' S').imp ?_
      rintro ⟨d, S9⟩ ⟨e, p9⟩
      simp only at e p9
      subst e
      exact ⟨rfl, p9⟩
    rintro ⟨d, T5⟩ ⟨k5, rfl, p5, _, h5⟩
    dsimp only at p5 h5
    have e5 : (csD l).map (fun d => cD (turnC tn (dC d))) = csD (l.map (turnC tn)) := by
      simp [csD, Function.comp_def]
    rw [e5] at h5
    dsimp only
    refine .of (sorted_ok h5 (by simp [most]; omega)) ?_
    have hs6 := At.new T5 (.lst (csD (sortC (l.map (turnC tn)))))
    refine .of (a := (.tup (csD (sortC (l.map (turnC tn)))), _)) (by simp only [tupleG, seqD, hs6]; rfl) ?_
    refine .of (ne_en (α := Tup Cell) (by decide) ⟨sortC (l.map (turnC tn))⟩ ⟨sortC (l.map (turnC tn))⟩ _) ?_
    simp only [blK_bl, decide_true, Bool.not_true, true_and]
    intro _
    have ta6 := ((ta3.pre p4).pre p5).pre (List.prefix_append T5 [.lst (csD (sortC (l.map (turnC tn))))])
    have hf6 := ((hf3.pre p4).pre p5).pre (List.prefix_append T5 [.lst (csD (sortC (l.map (turnC tn))))])
    generalize T5 ++ [O.lst (csD (sortC (l.map (turnC tn))))] = T6 at ta6 hf6 ⊢
    refine (any_order_ok (xs := csD fr) ta6 (by simp only [seqD, hf6]) (by simp; omega)).imp ?_
    rintro ⟨d, T7⟩ ⟨k7, ds, rfl, g7, ta7, hk7, hds, hlen, hin⟩
    dsimp only at g7 ta7 hds
    simp [-w_lcE]
    refine slice_lst hds ?_
    obtain ⟨cs, ecs⟩ := cells_of (ds := cutL ds none (some 14)) fun x hx => hin x (cutL_mem hx)
    have hcs : cs.length ≤ 121 := by
      have := cutL_len ds none (some 14)
      rw [ecs] at this
      simp at hlen this; omega
    rw [ecs]
    have hc8 := At.new T7 (.lst (csD cs))
    have ta8 := ta7.pre (List.prefix_append T7 [.lst (csD cs)])
    generalize T7 ++ [O.lst (csD cs)] = T8 at hc8 ta8 ⊢
    generalize List.length T7 = k8 at hc8 ⊢
    refine ⟨_, srcD_lst hc8, ?_⟩
    have pm := sortC_perm (l.map (turnC tn))
    have hll : (sortC (l.map (turnC tn))).length < 400 := by rw [pm.length_eq]; simp; omega
    refine W.imp (Q := fun r => r.1 = .nx ∧ SrcAt r.2.2 a b ∧ ∃ u3 u5', r.2.1 = [some (.loc n), some (.loc a), some (.loc kc), u3, some (.int tn), u5', u6, some (.int i), some (.tup (csD l)), some (.loc kf), some (.tup (csD (sortC (l.map (turnC tn))))), none, none, none, none, none, none, none, none, none, none, none, none, none, none, none, none, none, none, none, none, none])
      (for_rule (xs := csD cs) (fun j σ S' => Pre1 T8 S' ∧ ∃ u3 u5', σ = [some (.loc n), some (.loc a), some (.loc kc), u3, some (.int tn), u5', u6, some (.int i), some (.tup (csD l)), some (.loc kf), some (.tup (csD (sortC (l.map (turnC tn))))), none, none, none, none, none, none, none, none, none, none, none, none, none, none, none, none, none, none, none, none, none]) LF (by simp [LF]; omega) ?_ ?_ ?_ ?_) ?_
    · rintro j σ S' ⟨p, _⟩; exact items_lst hc8 S' p j
    · rintro j y σ S' hy ⟨p, u3, u5', rfl⟩
      obtain ⟨c, hc, rfl⟩ := csD_get hy
      simp [-List.map_map]
      refine (law_code_ok l c (.inl rfl) (by omega)).imp ?_
      rintro ⟨d, V1⟩ ⟨e, q1⟩
      simp only at e q1
      subst e
      simp [-List.map_map]
      refine (code_at_ok l c V1 (by omega)).imp ?_
      rintro ⟨d, V2⟩ ⟨e, q2⟩
      simp only at e q2
      subst e
      refine .of (ne_en (α := Int) (by decide) _ _ V2) ?_
      simp [-List.map_map]
      refine (turned_ok tn htn c V2).imp ?_
      rintro ⟨d, V3⟩ ⟨e, q3⟩
      simp only at e q3
      subst e
      refine (code_at_ok (sortC (l.map (turnC tn))) (turnC tn c) V3 hll).imp ?_
      rintro ⟨d, V4⟩ ⟨e, q4⟩
      simp only at e q4
      subst e
      rw [code_turned htn l (sortC (l.map (turnC tn))) (fun x => pm.mem_iff) c]
      obtain ⟨z0, z1⟩ := codeL_range l c
      obtain ⟨cn, ecn, hcn⟩ : ∃ cn : Nat, codeL l c = cn ∧ cn < 256 := ⟨(codeL l c).toNat, by omega, by omega⟩
      rw [ecn]
      refine (H.turned cn tn hcn htn V4).imp ?_
      rintro ⟨d, V5⟩ ⟨e, q5⟩
      simp only at e q5
      subst e
      refine .of (ne_en (α := Int) (by decide) _ _ V5) ?_
      simp [-List.map_map]
      refine (is_simple_ok H.sim l c V5 (by omega)).imp ?_
      rintro ⟨d, V6⟩ ⟨e, q6⟩
      simp only at e q6
      subst e
      refine .of (repr_bl _ V6) ?_
      refine (simple_in_ok H.sim l c V6 (by omega)).imp ?_
      rintro ⟨d, V7⟩ ⟨e, q7⟩
      simp only at e q7
      subst e
      refine .of (repr_bl _ V7) ?_
      refine .of (repr_ne _ V7) ?_
      simp [-List.map_map]
      exact (((((((p.trans q1).trans q2).trans q3).trans q4).trans q5).trans q6).trans q7)
    · rintro σ S' ⟨p, u3, u5', rfl⟩
      exact ⟨rfl, ta8.pre p, u3, u5', rfl⟩
    · exact ⟨.refl _, u3, u5, rfl⟩
    rintro ⟨r, σ, T9⟩ ⟨rfl, ta9, u3', u5', e⟩
    simp only at ta9 e
    subst e
    simp [-w_lcE, -List.map_map]
    refine (simple_cells_ok H.sim l T9 (by omega)).imp ?_
    rintro ⟨d, T10⟩ ⟨e, q1⟩
    simp only at e q1
    subst e
    refine (lc_pure (csD l) (fun d => if simL l (dC d) then some d else none) (by simp [LF]; omega) (by simp [most]; omega) ?_ ?_).imp ?_
    · simp [srcD, Pre1.refl]; exact items_tup _ _
    · intro j y hy S' p
      obtain ⟨c', hc', rfl⟩ := csD_get hy
      simp [wipeD]
      refine (simple_in_ok H.sim l c' S' (by omega)).imp ?_
      rintro ⟨d, S9⟩ ⟨e, p9⟩
      simp only at e p9
      subst e
      by_cases hs : simL l c' = true <;> simp [hs, p9]
    rintro ⟨d, T11⟩ ⟨k11, rfl, q2, _, h11⟩
    dsimp only at q2 h11
    rw [filt_map (simL l) _ (fun c => rfl)] at h11
    refine .of (a := (.tup (csD (l.filter (simL l))), T11)) (by simp only [tupleG, seqD, h11]) ?_
    refine .of (ne_en (α := Tup Cell) (by decide) ⟨l.filter (simL l)⟩ ⟨l.filter (simL l)⟩ _) ?_
    simp only [blK_bl, decide_true, Bool.not_true, true_and]
    exact fun _ => (ta9.pre q1).pre q2
  · rintro σ S' ⟨sa, u3, u4, u5, u6, u7, u8, u9, u10, rfl⟩
    simp
  · exact ⟨sa8, u3, u4, u5, u6, none, none, none, none, rfl⟩
end RF

end

/-! ## M05p -/
section
set_option maxRecDepth 100000
/-! the law's own parts -/
namespace RF
open PySem PySem.W L2
def rem (c : Cell) (l : List Cell) : List Cell := l.filter (· ≠ c)
def stepP (p : List Cell × List Cell) (late : Cell) : List Cell × List Cell := if late ∈ p.1 then (rem late p.1, p.2 ++ [late]) else p
def flood (nb : Cell → List Cell) : Nat → List Cell → List Cell → List Cell → List Cell × List Cell
  | 0, left, _, got => (left, got)
  | n + 1, left, rest, got => match rest.getLast? with
    | none => (left, got)
    | some here => flood nb n ((nb here).foldl stepP (left, rest.dropLast)).1 ((nb here).foldl stepP (left, rest.dropLast)).2 (got ++ [here])
def partK (nb : Cell → List Cell) (p : List Cell × List (List Cell)) (c : Cell) : List Cell × List (List Cell) :=
  if c ∈ p.1 then ((flood nb p.1.length (rem c p.1) [c] []).1, p.2 ++ [sortC (flood nb p.1.length (rem c p.1) [c] []).2]) else p
def partsM (nb : Cell → List Cell) (cells : List Cell) : List (List Cell) := ((sortC cells).foldl (partK nb) (uniq cells, [])).2
theorem filter_lt {l : List Cell} {c : Cell} (h : c ∈ l) : (rem c l).length + 1 ≤ l.length := by
  unfold rem
  have : (l.filter (· ≠ c)).length < l.length := by
    rw [List.length_filter_lt_length_iff_exists]
    exact ⟨c, h, by simp⟩
  omega
theorem stepP_len (p : List Cell × List Cell) (c : Cell) : (stepP p c).1.length + (stepP p c).2.length ≤ p.1.length + p.2.length := by
  unfold stepP
  split
  · rename_i h
    have := filter_lt h
    simp at this ⊢; omega
  · exact Nat.le_refl _
theorem foldP_len (ns : List Cell) : ∀ p : List Cell × List Cell, (ns.foldl stepP p).1.length + (ns.foldl stepP p).2.length ≤ p.1.length + p.2.length := by
  induction ns with
  | nil => intro p; exact Nat.le_refl _
  | cons c r ih => intro p; exact Nat.le_trans (ih _) (stepP_len p c)
theorem flood_end (nb : Cell → List Cell) (n : Nat) (left got : List Cell) : flood nb n left [] got = (left, got) := by
  cases n <;> rfl
theorem flood_go (nb : Cell → List Cell) (n : Nat) (left rest got : List Cell) (here : Cell) : flood nb (n + 1) left (rest ++ [here]) got = flood nb n ((nb here).foldl stepP (left, rest)).1 ((nb here).foldl stepP (left, rest)).2 (got ++ [here]) := by
  simp only [flood, List.getLast?_concat, List.dropLast_concat]
theorem py_lst {S : Store} {n : Nat} {l : List Cell} (h : At S n (.lst (csD l))) : py S (.loc n) = some (Datum.toD l) := by
  show toPy S 40 (.loc n) = _
  simp only [toPy, h]
  have := pys_en (α := Cell) (f := 39) (by decide) S l
  simp only [toPys] at this
  show (match allS ((csD l).map (toPy S 39)) with | some ps => some (PyData.list ps) | none => none) = _
  rw [show csD l = l.map En.d from rfl, this]
  rfl
theorem ne_lst {S : Store} {n m : Nat} {l r : List Cell} (h1 : At S n (.lst (csD l))) (h2 : At S m (.lst (csD r))) : eqD true (.loc n) (.loc m) S = some (.bl (!decide (l = r)), S) := by
  simp only [eqD, py_lst h1, py_lst h2, if_true, Datum.eqv]
theorem w_dpop {S : Store} {n : Nat} {l : List Cell} {v : D} {c : Cell} {Q : D × Store → Prop} (h : At S n (.dct (tab l v))) (hc : c ∈ l) (q : Q (v, List.set S n (.dct (tab (rem c l) v)))) : W (dpopG (.loc n) [cD c] S) Q := by
  simp only [dpopG, h, tab_kind, if_true, tab_look, hc, tab_drop, W_some]; exact q
def nbOf (near : Bool) : Cell → List Cell := if near then nearC else sidesC
theorem Fr.setA {A : List Nat} {S S' : Store} (h : Fr A S S') {n : Nat} (hn : n ∈ A) (o : O) : Fr A S (List.set S' n o) := h.set (.inl hn) o
theorem fold_drop {β : Type} (g : β → Cell → β) {L : List Cell} {i : Nat} {c : Cell} (z : β) (hc : L[i]? = some c) : (L.drop i).foldl g z = (L.drop (i + 1)).foldl g (g z c) := by
  obtain ⟨hlt, e⟩ := List.getElem?_eq_some_iff.mp hc
  rw [List.drop_eq_getElem_cons hlt, List.foldl_cons, e]
/-- the outer loop -/
structure POut (near : Bool) (l : List Cell) (S2 : Store) (m a b i : Nat) (σ : Slots) (S' : Store) : Prop where
  f : Fr [a, b] S2 S'
  ex : ∃ left found u2 u5 u6 u7 u8, At S' a (.dct (tab left (.int 0))) ∧ At S' b (.lst (found.map fun p => .tup (csD p))) ∧ ((sortC l).drop i).foldl (partK (nbOf near)) (left, found) = (sortC l).foldl (partK (nbOf near)) (uniq l, []) ∧ left.length ≤ l.length ∧ found.length ≤ i ∧
    σ = [some (.loc m), some (.bl near), u2, some (.loc a), some (.loc b), u5, u6, u7, u8, none, none, none, none, none]
/-- the while -/
structure PMid (near : Bool) (N : Nat) (c : Cell) (F : List Cell × List Cell) (S3 : Store) (m a b e j : Nat) (σ : Slots) (S' : Store) : Prop where
  f : Fr [a, e, e + 1] S3 S'
  ex : ∃ left rest got k u7 u8, At S' a (.dct (tab left (.int 0))) ∧ At S' e (.lst (csD got)) ∧ At S' (e + 1) (.lst (csD rest)) ∧ j = left.length + rest.length ∧ j ≤ k ∧ flood (nbOf near) k left rest got = F ∧ got.length + j ≤ 400 ∧ left.length ≤ N ∧
    σ = [some (.loc m), some (.bl near), some (cD c), some (.loc a), some (.loc b), some (.loc e), some (.loc (e + 1)), u7, u8, none, none, none, none, none]
structure PEnd (near : Bool) (N : Nat) (c : Cell) (F : List Cell × List Cell) (S3 : Store) (m a b e : Nat) (r : Fl × Slots × Store) : Prop where
  nx : r.1 = .nx
  f : Fr [a, e, e + 1] S3 r.2.2
  A : At r.2.2 a (.dct (tab F.1 (.int 0)))
  E : At r.2.2 e (.lst (csD F.2))
  l1 : F.1.length ≤ N
  l2 : F.2.length ≤ 400
  ex : ∃ u7 u8, r.2.1 = [some (.loc m), some (.bl near), some (cD c), some (.loc a), some (.loc b), some (.loc e), some (.loc (e + 1)), u7, u8, none, none, none, none, none]
/-- the neighbours -/
structure PIn (near : Bool) (N : Nat) (c here : Cell) (G : List Cell × List Cell) (S4 : Store) (m a b e q i : Nat) (σ : Slots) (S' : Store) : Prop where
  f : Fr [a, e + 1] S4 S'
  ex : ∃ left rest u8, At S' a (.dct (tab left (.int 0))) ∧ At S' (e + 1) (.lst (csD rest)) ∧ ((nbOf near here).drop i).foldl stepP (left, rest) = G ∧ left.length + rest.length ≤ q ∧ left.length ≤ N ∧
    σ = [some (.loc m), some (.bl near), some (cD c), some (.loc a), some (.loc b), some (.loc e), some (.loc (e + 1)), some (cD here), u8, none, none, none, none, none]
def inB : SV := seqV (ifV (cmpB (bind2 PK0.isin (slotE 8) (slotE 3))) (seqV (dropV (methE (some popG) (some dpopG) (slotE 3) (consA (slotE 8) nilA))) (seqV (dropV (methE (some appendG) none (slotE 6) (consA (slotE 8) nilA))) passV)) passV) passV
theorem in_step {near : Bool} {N : Nat} {c here : Cell} {G : List Cell × List Cell} {S4 : Store} {m a b e q i : Nat} {σ : Slots} {S' : Store} {late : Cell} (hq : q ≤ 400) (hae : a ≠ e + 1) (hl : (nbOf near here)[i]? = some late) (h : PIn near N c here G S4 m a b e q i σ S') :
    W (setV 8 (cD late) σ S') fun p => W (inB p.1 p.2) fun r => r.1 = .nx ∧ PIn near N c here G S4 m a b e q (i + 1) r.2.1 r.2.2 := by
  obtain ⟨f, left, rest, u8, hA, hR, hfold, hlen, hN, rfl⟩ := h
  rw [fold_drop _ _ hl] at hfold
  simp [inB, PK0, cmpD]
  refine .of (in_tab false late hA) ?_
  simp [flipB]
  refine ⟨fun hin => ?_, fun hin => ⟨f, left, rest, _, hA, hR, by rw [← hfold]; simp [stepP, hin], hlen, hN, rfl⟩⟩
  have hlt := filter_lt hin
  simp [mk_dct hA]
  refine w_dpop hA hin ?_
  have hR2 : At (List.set S' a (.dct (tab (rem late left) (.int 0)))) (e + 1) (.lst (csD rest)) := hR.set_ne (Ne.symm hae)
  have hA2 : At (List.set S' a (.dct (tab (rem late left) (.int 0)))) a (.dct (tab (rem late left) (.int 0))) := At.set hA.lt
  simp [mk_lst hR2]
  refine w_append hR2 (by simp [most]; omega) ?_
  have e1 : csD rest ++ [cD late] = csD (rest ++ [late]) := by simp
  rw [e1]
  dsimp only
  refine ⟨(f.set (.inl (by simp)) _).set (.inl (by simp)) _, rem late left, rest ++ [late], _, hA2.set_ne hae, At.set hR2.lt, by rw [← hfold]; simp [stepP, hin], by simp; omega, by omega, rfl⟩
end RF
namespace RF
open PySem PySem.W L2
def midB : SV := seqV (asgV (methE (some popG) (some dpopG) (slotE 6) nilA) (setV 7)) (seqV (dropV (methE (some appendG) none (slotE 5) (consA (slotE 7) nilA))) (seqV (forIV (seqIV (ifE (truE (slotE 1)) (callE m__law_near (consA (slotE 7) nilA)) (callE m__law_sides (consA (slotE 7) nilA)))) (setV 8) inB LF) passV))
theorem Fr.app3 {A : List Nat} {S S' : Store} (h : Fr A S S') (E : Store) : Fr A S (S' ++ E) := h.app E
theorem mid_ok {near : Bool} {N : Nat} {c : Cell} {F : List Cell × List Cell} {S3 : Store} {m a b e j : Nat} {σ : Slots} {S' : Store} (hj : j ≤ 400) (hae : a ≠ e ∧ a ≠ e + 1) (h : PMid near N c F S3 m a b e j σ S') :
    W (cmpB (bind2 (cmpD .NotEq) (slotE 6) (lstE nilA)) σ S') fun p => (p.1 = false → PEnd near N c F S3 m a b e (.nx, σ, p.2)) ∧ (p.1 = true → W (midB σ p.2) fun r => r.1 = .nx ∧ ∃ j', j' < j ∧ PMid near N c F S3 m a b e j' r.2.1 r.2.2) := by
  obtain ⟨f, left, rest, got, k, u7, u8, hA, hG, hR, rfl, hk, hflood, hgot, hN, rfl⟩ := h
  simp [cmpD, most]
  refine .of (ne_lst (r := []) (hR.app _) (At.new S' _)) ?_
  simp
  refine ⟨fun hz => ?_, fun hz => ?_⟩
  · subst hz
    rw [flood_end] at hflood
    subst hflood
    exact ⟨rfl, f.app _, hA.app _, hG.app _, hN, by simp at hgot; simp; omega, _, _, rfl⟩
  · obtain ⟨rest', here, rfl⟩ : ∃ r h, rest = r ++ [h] := by
      rcases List.eq_nil_or_concat rest with h | ⟨r, x, h⟩
      · exact absurd h hz
      · exact ⟨r, x, by simpa using h⟩
    have hR1 := hR.app [O.lst []]
    have hG1 := hG.app [O.lst []]
    have hA1 := hA.app [O.lst []]
    have f1 := f.app [O.lst []]
    generalize S' ++ [O.lst []] = T at hR1 hG1 hA1 f1 ⊢
    simp [midB, mk_lst hR1, -w_ifE]
    have er : csD (rest' ++ [here]) = csD rest' ++ [cD here] := by simp
    rw [er] at hR1
    refine w_pop hR1 ?_
    have hG2 := hG1.set_ne (o' := .lst (csD rest')) (show e ≠ e + 1 by omega)
    have hA2 := hA1.set_ne (o' := .lst (csD rest')) hae.2
    have hR2 : At (List.set T (e + 1) (.lst (csD rest'))) (e + 1) (.lst (csD rest')) := At.set hR1.lt
    have f2 := f1.setA (n := e + 1) (by simp) (.lst (csD rest'))
    simp at hgot
    simp [mk_lst hG2, -w_ifE]
    refine w_append hG2 (by simp [most]; omega) ?_
    have eg : csD got ++ [cD here] = csD (got ++ [here]) := by simp
    have hA3 := hA2.set_ne (o' := .lst (csD (got ++ [here]))) hae.1
    have hR3 := hR2.set_ne (o' := .lst (csD (got ++ [here]))) (show e + 1 ≠ e by omega)
    have hG3 : At (List.set (List.set T (e + 1) (.lst (csD rest'))) e (.lst (csD (got ++ [here])))) e (.lst (csD (got ++ [here]))) := At.set hG2.lt
    have f3 := f2.setA (n := e) (by simp) (.lst (csD (got ++ [here])))
    rw [eg]
    dsimp only
    generalize List.set (List.set T (e + 1) (.lst (csD rest'))) e (.lst (csD (got ++ [here]))) = U at hA3 hR3 hG3 f3 ⊢
    have nb : W (ifE (truE (slotE 1)) (callE m__law_near (consA (slotE 7) nilA)) (callE m__law_sides (consA (slotE 7) nilA)) [some (.loc m), some (.bl near), some (cD c), some (.loc a), some (.loc b), some (.loc e), some (.loc (e + 1)), some (cD here), u8, none, none, none, none, none] U) (Lst (csD (nbOf near here)) U) := by
      cases near
      · simp
        exact sides_ok here U
      · simp
        exact near_ok here U
    refine nb.imp ?_
    rintro ⟨d, V⟩ ⟨kn, rfl, pV, hkn, hV⟩
    dsimp only at pV hV
    simp [srcD_lst hV]
    have nbl : (nbOf near here).length ≤ 8 := by cases near <;> simp [nbOf, nearC, sidesC]
    have lA := hA3.lt
    have lR := hR3.lt
    simp at hk
    refine W.imp (Q := fun r => r.1 = .nx ∧ PIn near N c here ((nbOf near here).foldl stepP (left, rest')) V m a b e (left.length + rest'.length) (nbOf near here).length r.2.1 r.2.2)
      (for_rule (xs := csD (nbOf near here)) (fun i σ S' => PIn near N c here ((nbOf near here).foldl stepP (left, rest')) V m a b e (left.length + rest'.length) i σ S') LF (by simp [LF]; omega) ?_ ?_ ?_ ?_) ?_
    · intro i σ S' h
      exact items_lst (h.f.at hV (by simp; omega)) S' (.refl _) i
    · intro i x σ S' hx h
      obtain ⟨late, hl, rfl⟩ := csD_get hx
      refine (in_step (by omega) hae.2 hl h).imp ?_
      rintro ⟨σ1, S1⟩ q
      refine q.imp ?_
      rintro ⟨r, σ2, S2⟩ ⟨e1, h2⟩
      simp only at e1
      subst e1
      exact h2
    · intro σ S' h
      rw [List.length_map] at h
      exact ⟨rfl, h⟩
    · exact ⟨.refl _ _, left, rest', u8, hA3.pre pV, hR3.pre pV, rfl, Nat.le_refl _, hN, rfl⟩
    · rintro ⟨r, σ, S5⟩ ⟨e1, f5, left5, rest5, u8', hA5, hR5, hf5, hl5, hN5, e5⟩
      simp only at e1 f5 hA5 hR5 e5
      subst e1 e5
      rw [List.drop_length] at hf5
      simp only [List.foldl_nil] at hf5
      simp
      have hG5 := f5.at (hG3.pre pV) (by simp; omega)
      obtain ⟨k', rfl⟩ : ∃ k', k = k' + 1 := ⟨k - 1, by omega⟩
      rw [flood_go] at hflood
      refine ⟨left5.length + rest5.length, by omega, ?_, left5, rest5, got ++ [here], k', _, _, hA5, hG5, hR5, rfl, by omega, ?_, by simp; omega, hN5, rfl⟩
      · refine (f3.trans (.pre pV)).trans (f5.mono ?_)
        intro n hn
        simp at hn ⊢
        omega
      · rw [← hf5] at hflood
        exact hflood
end RF
namespace RF
open PySem PySem.W L2
theorem partK_in {nb : Cell → List Cell} {left : List Cell} {found : List (List Cell)} {c : Cell} (h : c ∈ left) : partK nb (left, found) c = ((flood nb left.length (rem c left) [c] []).1, found ++ [sortC (flood nb left.length (rem c left) [c] []).2]) := by
  simp only [partK, h, if_true]
theorem partK_out {nb : Cell → List Cell} {left : List Cell} {found : List (List Cell)} {c : Cell} (h : c ∉ left) : partK nb (left, found) c = (left, found) := by
  simp only [partK, h, if_false]
theorem tup_srt {S : Store} {n : Nat} {l : List Cell} {Q : D × Store → Prop} (h : At S n (.lst (csD l))) (hl : l.length ≤ most) (q : Q (.tup (csD (sortC l)), S ++ [.lst (csD (sortC l))])) : W (PK0.srt [.loc n] S) fun p => W (tupleG [p.1] p.2) Q := by
  refine .of (sorted_ok h hl) ?_
  have := At.new S (.lst (csD (sortC l)))
  refine .of (a := (.tup (csD (sortC l)), S ++ [.lst (csD (sortC l))])) (by simp only [tupleG, seqD, this]) q
theorem parts_ok (near : Bool) {l : List Cell} {S : Store} {m : Nat} (h : At S m (.lst (csD l))) (hl : l.length < 400) : W (m__law_parts_by [.loc m, .bl near] S) (Lst ((partsM (nbOf near) l).map fun p => .tup (csD p)) S) := by
  rw [m__law_parts_by, w_runM]
  simp only [b__law_parts_by, w_seqV, w_parV, w_consA]
  refine ⟨rfl, (law_dict (l := l) (.inr ⟨m, rfl, h⟩) rfl (by simp) hl).imp ?_⟩
  rintro ⟨d, S1⟩ ⟨a, rfl, p1, ha, h1⟩
  dsimp only at p1 h1
  simp [most]
  have hm1 := (h.pre p1).app [.lst []]
  refine .of (sorted_ok hm1 (by simp [most]; omega)) ?_
  have hs := At.new (S1 ++ [O.lst []]) (.lst (csD (sortC l)))
  have hA := (h1.app [.lst []]).app [.lst (csD (sortC l))]
  have hB : At ((S1 ++ [O.lst []]) ++ [O.lst (csD (sortC l))]) (List.length S1) (.lst []) := (At.new S1 _).app _
  have p2 : Pre1 S ((S1 ++ [O.lst []]) ++ [O.lst (csD (sortC l))]) := (p1.app _).app _
  have ka : a < List.length S1 := h1.lt
  have kl := p1.len
  have kb : List.length S1 < List.length (S1 ++ [O.lst []]) := by simp
  generalize (S1 ++ [O.lst []]) ++ [O.lst (csD (sortC l))] = S2 at *
  generalize List.length (S1 ++ [O.lst []]) = s at *
  generalize List.length S1 = b at *
  simp [srcD_lst hs]
  have hsl : (sortC l).length = l.length := (sortC_perm l).length_eq
  refine for_rule (xs := csD (sortC l)) (fun i σ S' => POut near l S2 m a b i σ S') LF (by simp [LF, hsl]; omega) ?_ ?_ ?_ ?_
  · intro i σ S' q
    exact items_lst (q.f.at hs (by simp; omega)) S' (.refl _) i
  · rintro i x σ S' hx ⟨f, left, found, u2, u5, u6, u7, u8, hA', hB', hfold, hll, hfl, rfl⟩
    obtain ⟨c, hc, rfl⟩ := csD_get hx
    have hi : i < l.length := by
      have := (List.getElem?_eq_some_iff.mp hc).1; omega
    rw [fold_drop _ _ hc] at hfold
    simp only [w_setV, w_seqV, w_ifV, w_cmpB, w_bind2, w_slot, List.set_cons_zero, List.set_cons_succ, List.getElem?_cons_zero, List.getElem?_cons_succ, Option.some.injEq, exists_eq_left']
    refine .of (in_tab false c hA') ?_
    simp only [blK_bl, flipB, decide_eq_true_eq, decide_eq_false_iff_not, if_false, Bool.false_eq_true]
    refine ⟨fun hcl => ?_, fun hcl => ?_⟩
    · rw [partK_in hcl] at hfold
      have hfl2 := filter_lt hcl
      generalize hF : flood (nbOf near) left.length (rem c left) [c] [] = F at hfold
      have la := hA'.lt
      have lb := hB'.lt
      simp only [w_parV, w_consA, w_lstE, w_nilA, w_slot, parK_two, seqK_nx, w_seqV, w_dropV, w_methE, List.set_cons_zero, List.set_cons_succ, List.getElem?_cons_zero, List.getElem?_cons_succ, Option.some.injEq, exists_eq_left']
      refine ⟨by simp [most], by simp [most], ?_⟩
      have hA2 := (hA'.app [O.lst []]).app [O.lst [cD c]]
      have hB2 := (hB'.app [O.lst []]).app [O.lst [cD c]]
      have hE2 := (At.new S' (.lst [])).app [O.lst [cD c]]
      have hR2 := At.new (S' ++ [O.lst []]) (.lst [cD c])
      have f2 := ((Fr.refl [a, b] S').app [O.lst []]).app [O.lst [cD c]]
      have ell : List.length (S' ++ [O.lst []]) = List.length S' + 1 := by simp
      rw [ell] at hR2 ⊢
      generalize (S' ++ [O.lst []]) ++ [O.lst [cD c]] = T at hA2 hB2 hE2 hR2 f2 ⊢
      generalize he : List.length S' = e at hE2 hR2 la lb ⊢
      rw [mk_dct hA2]
      simp only [mK_dct]
      refine w_dpop hA2 hcl ?_
      have hA3 : At (List.set T a (.dct (tab (rem c left) (.int 0)))) a (.dct (tab (rem c left) (.int 0))) := At.set hA2.lt
      have hB3 := hB2.set_ne (o' := .dct (tab (rem c left) (.int 0))) (show b ≠ a by omega)
      have hE3 := hE2.set_ne (o' := .dct (tab (rem c left) (.int 0))) (show e ≠ a by omega)
      have hR3 := hR2.set_ne (o' := .dct (tab (rem c left) (.int 0))) (show e + 1 ≠ a by omega)
      have f3 := f2.setA (n := a) (by simp) (.dct (tab (rem c left) (.int 0)))
      dsimp only
      generalize List.set T a (.dct (tab (rem c left) (.int 0))) = U at hA3 hB3 hE3 hR3 f3 ⊢
      refine W.imp (Q := PEnd near l.length c F U m a b e) (while_rule (fun j σ S'' => j ≤ 400 ∧ PMid near l.length c F U m a b e j σ S'') ((rem c left).length + 1) LF (by simp [LF]; omega) ?_ ?_) ?_
      · rintro j σ S'' ⟨hj, hmid⟩
        refine (mid_ok hj ⟨by omega, by omega⟩ hmid).imp ?_
        rintro ⟨t, S4⟩ ⟨q1, q2⟩
        refine ⟨q1, fun ht => (q2 ht).imp ?_⟩
        rintro ⟨r, σ2, S5⟩ ⟨e1, j', hj', hm'⟩
        simp only at e1
        subst e1
        exact ⟨j', hj', by omega, hm'⟩
      · exact ⟨by omega, .refl _ _, rem c left, [c], [], left.length, u7, u8, hA3, hE3, hR3, rfl, hfl2, hF, by simp; omega, by omega, rfl⟩
      · rintro ⟨r, σ, V⟩ ⟨e1, fV, hAV, hEV, l1, l2, u7', u8', e5⟩
        simp only at e1 fV hAV hEV e5
        subst e1 e5
        have hBV := fV.at hB3 (by simp; omega)
        simp [mk_lst hBV]
        refine tup_srt hEV (by simp [most]; omega) ?_
        dsimp only
        refine w_append (hBV.app _) (by simp [most]; omega) ?_
        have hAW := (hAV.app [.lst (csD (sortC F.2))]).set_ne (o' := .lst ((found.map fun p => D.tup (csD p)) ++ [.tup (csD (sortC F.2))])) (show a ≠ b by omega)
        have hBW : At (List.set (V ++ [.lst (csD (sortC F.2))]) b (.lst ((found.map fun p => D.tup (csD p)) ++ [.tup (csD (sortC F.2))]))) b _ := At.set (hBV.app _).lt
        refine ⟨?_, F.1, found ++ [sortC F.2], _, _, _, _, _, hAW, ?_, hfold, l1, by simp; omega, rfl⟩
        · refine (f.trans ⟨?_, fun n hn hna => ?_⟩).setA (n := b) (by simp) _
          · have := fV.len; have := f3.len; simp; omega
          · have l3 := f3.len
            have lV := fV.len
            rw [List.getElem?_append_left (by omega), fV.same n (by omega) (by simp at hna ⊢; omega)]
            exact f3.same n hn hna
        · rw [List.map_append]; exact hBW
    · rw [partK_out hcl] at hfold
      simp only [w_passV, seqK_nx, w_seqV]
      exact ⟨f, left, found, _, _, _, _, _, hA', hB', hfold, hll, by omega, rfl⟩
  · rintro σ S' ⟨f, left, found, u2, u5, u6, u7, u8, hA', hB', hfold, hll, hfl, rfl⟩
    rw [List.length_map, List.drop_length] at hfold
    simp only [List.foldl_nil] at hfold
    simp
    refine ⟨b, rfl, f.fresh p2 (by simp; omega), by omega, ?_⟩
    have : partsM (nbOf near) l = found := by rw [partsM, ← hfold]
    rw [this]
    exact hB'
  · exact ⟨.refl _ _, uniq l, [], none, none, none, none, none, hA, hB, rfl, uniq_len l, by simp, rfl⟩
end RF

end

/-! ## M05q -/
section
set_option maxRecDepth 100000
/-! runs of numbers, and whether a code is told right -/
namespace RF
open PySem PySem.W L2
def idxC (c : Cell) : List Cell → Nat → Nat
  | [], i => i
  | d :: r, i => if d = c then i else idxC c r (i + 1)
theorem findD_en (c : Cell) : ∀ (l : List Cell) (i : Nat), c ∈ l → findD (Datum.toD c) (l.map Datum.toD) i = some (idxC c l i)
  | [], _, h => by cases h
  | d :: r, i, h => by
    simp only [List.map_cons, findD, Datum.eqv, decide_eq_true_eq, idxC]
    by_cases e : d = c
    · simp [e]
    · simp only [e, if_false]
      refine findD_en c r (i + 1) ?_
      rcases List.mem_cons.mp h with h | h
      · exact absurd h.symm e
      · exact h
theorem w_index {S : Store} {n : Nat} {l : List Cell} {c : Cell} {Q : D × Store → Prop} (h : At S n (.lst (csD l))) (hc : c ∈ l) (q : Q (.int (idxC c l 0 : Nat), S)) : W (indexG (.loc n) [cD c] S) Q := by
  have e1 : py S (cD c) = some (Datum.toD c) := py_en (α := Cell) (by decide) S c
  have e2 : toPys S 39 (csD l) = some (l.map Datum.toD) := pys_en (α := Cell) (by decide) S l
  simp only [indexG, h, e1, e2, findD_en c l 0 hc, W_some]; exact q
def O8 : List Cell := nearC (0, 0)
def numD (l : List Nat) : List D := l.map fun k : Nat => .int k
def runRow (lot : List Cell) : List Int := isortZ (lot.map fun c => (idxC c O8 0 : Nat))
def runsM (near : Bool) (nums : List Nat) : List (List Int) := isortI ((partsM (nbOf near) (nums.map fun k => O8.getD k (0, 0))).map runRow)
/-- what of the parts is to be known -/
def lotsOk (near : Bool) (nums : List Nat) : Bool := (nums.all fun k => decide (k < 8)) && decide (nums.length ≤ 8) && decide ((partsM (nbOf near) (nums.map fun k => O8.getD k (0, 0))).length ≤ 8) && (partsM (nbOf near) (nums.map fun k => O8.getD k (0, 0))).all fun lot => (lot.all fun c => decide (c ∈ O8)) && decide (lot.length ≤ 8) && !(runRow lot).isEmpty
theorem runs_ok (near : Bool) {nums : List Nat} {S : Store} {n : Nat} (h : At S n (.lst (numD nums))) (ok : lotsOk near nums = true) : W (m__law_runs_of [.loc n, .bl near] S) (Val (.tup ((runsM near nums).map tupI)) S) := by
  simp only [lotsOk, Bool.and_eq_true, List.all_eq_true, decide_eq_true_eq] at ok
  obtain ⟨⟨⟨o1, o2⟩, o3⟩, o4⟩ := ok
  rw [m__law_runs_of, w_runM]
  simp [b__law_runs_of, most, -w_lcE]
  refine (near_ok (0, 0) S).imp ?_
  rintro ⟨d, S1⟩ ⟨a, rfl, p1, _, h1⟩
  dsimp only at p1 h1
  have h2 := (h.pre p1).app [.lst []]
  have h12 := h1.app [.lst []]
  have hF := At.new S1 (.lst [])
  have p2 := p1.app [.lst []]
  have la := h1.lt
  simp [-w_lcE]
  generalize S1 ++ [O.lst []] = S2 at *
  generalize List.length S1 = f at *
  refine (lc_map (numD nums) (fun d => match d with | .int k => cD (O8.getD k.toNat (0, 0)) | d => d) (by simp [numD, LF]; omega) (by simp [numD, most]; omega) ?_ ?_).imp ?_
  · simp [srcD_lst h2, Pre1.refl]; exact items_lst h2
  · intro i x hx S' p
    rw [numD, List.getElem?_map] at hx
    cases hs : nums[i]? with
    | none => rw [hs] at hx; cases hx
    | some k =>
      rw [hs] at hx
      cases hx
      have hk := o1 k (List.mem_of_getElem? hs)
      simp [wipeD]
      have hp := h12.pre p
      have e : atI (csD O8) (k : Int) = some (cD (O8.getD k (0, 0))) := by
        match k, hk with
        | 0, _ | 1, _ | 2, _ | 3, _ | 4, _ | 5, _ | 6, _ | 7, _ => rfl
      refine .of (a := (cD (O8.getD k (0, 0)), S')) (by simp only [ixD, hp]; rw [show csD (nearC (0, 0)) = csD O8 from rfl, e]) ?_
      simp [Pre1.refl]
  rintro ⟨d, S3⟩ ⟨b, rfl, p3, hb, h3⟩
  dsimp only at p3 h3
  have e3 : (numD nums).map (fun d => match d with | .int k => cD (O8.getD k.toNat (0, 0)) | d => d) = csD (nums.map fun k => O8.getD k (0, 0)) := by
    rw [numD, csD, List.map_map, List.map_map]; rfl
  rw [e3] at h3
  simp [-w_lcE]
  refine (parts_ok near h3 (by simp; omega)).imp ?_
  rintro ⟨d, S4⟩ ⟨c, rfl, p4, hc, h4⟩
  dsimp only at p4 h4
  generalize hPs : partsM (nbOf near) (nums.map fun k => O8.getD k (0, 0)) = Ps at *
  simp [srcD_lst h4, -w_lcE]
  have hF4 := (hF.pre p3).pre p4
  have h14 := (h12.pre p3).pre p4
  have lf4 := hF.lt
  have l34 := p3.len
  have l44 := p4.len
  refine for_rule (xs := Ps.map fun p => .tup (csD p)) (fun i σ S' => Fr [f] S4 S' ∧ At S' f (.lst ((Ps.take i).map fun lot => tupI (runRow lot))) ∧ ∃ u v w, σ = [some (.loc n), some (.bl near), some (.loc a), some (.loc f), u, none, none, none, none, v, w]) LF (by simp [LF]; omega) ?_ ?_ ?_ ?_
  · rintro i σ S' ⟨q, _⟩
    have := items_lst (q.at h4 (by simp; omega)) S' (.refl _) i
    exact this
  · rintro i x σ S' hx ⟨q, hf, u, v, w, rfl⟩
    rw [List.getElem?_map] at hx
    cases hs : Ps[i]? with
    | none => rw [hs] at hx; cases hx
    | some lot =>
      rw [hs] at hx
      cases hx
      have hin := o4 lot (List.mem_of_getElem? hs)
      have hlen : lot.length ≤ 8 := hin.1.2
      simp [mk_lst hf, -w_lcE]
      refine (lc_map (csD lot) (fun d => .int (idxC (dC d) O8 0 : Nat)) (by simp [LF]; omega) (by simp [most]; omega) ?_ ?_).imp ?_
      · simp [srcD, Pre1.refl]; exact items_tup _ _
      · intro j y hy S5 p
        obtain ⟨c', hc', rfl⟩ := csD_get hy
        have ha5 := (q.at h14 (by simp; omega)).pre p
        simp [wipeD, mk_lst ha5]
        refine w_index ha5 (hin.1.1 c' (List.mem_of_getElem? hc')) ?_
        exact ⟨rfl, .refl _⟩
      · rintro ⟨d, S5⟩ ⟨k5, rfl, p5, _, h5⟩
        dsimp only at p5 h5 ⊢
        have e5 : (csD lot).map (fun d => D.int (idxC (dC d) O8 0 : Nat)) = (lot.map fun c => ((idxC c O8 0 : Nat) : Int)).map D.int := by
          simp [csD, Function.comp_def]
        rw [e5] at h5
        refine .of (srt_ints (is := lot.map fun c => ((idxC c O8 0 : Nat) : Int)) (by simp only [lstD, h5]) (by simp [most]; omega)) ?_
        have h6 := At.new S5 (.lst ((isortZ (lot.map fun c => ((idxC c O8 0 : Nat) : Int))).map .int))
        refine .of (a := (tupI (runRow lot), S5 ++ [.lst ((isortZ (lot.map fun c => ((idxC c O8 0 : Nat) : Int))).map .int)])) (by simp only [tupleG, seqD, h6]; rfl) ?_
        have hf6 := (hf.pre p5).app [.lst ((isortZ (lot.map fun c => ((idxC c O8 0 : Nat) : Int))).map .int)]
        refine w_append hf6 (by simp [most]; omega) ?_
        have et : Ps.take (i + 1) = Ps.take i ++ [lot] := by rw [List.take_succ, hs]; rfl
        refine ⟨((q.trans (.pre p5)).app _).setA (by simp) _, ?_⟩
        have et' : List.take (i + 1) (Ps.map fun lot => tupI (runRow lot)) = ((Ps.take i).map fun lot => tupI (runRow lot)) ++ [tupI (runRow lot)] := by
          rw [← List.map_take, et, List.map_append]; rfl
        rw [et']
        exact At.set hf6.lt
  · rintro σ S' ⟨q, hf, u, v, w, rfl⟩
    rw [List.length_map, List.take_length] at hf
    simp
    have e7 : (Ps.map fun lot => tupI (runRow lot)) = (Ps.map runRow).map tupI := by rw [List.map_map]; rfl
    rw [e7] at hf
    refine .of (srt_rows (rs := Ps.map runRow) (by simp only [lstD, hf]) (by simp [most]; omega) ?_) ?_
    · intro r hr e
      obtain ⟨lot, hl, rfl⟩ := List.mem_map.mp hr
      have := (o4 lot hl).2
      rw [e] at this
      cases this
    · have h8 := At.new S' (.lst ((isortI (Ps.map runRow)).map tupI))
      refine .of (a := (.tup ((isortI (Ps.map runRow)).map tupI), S' ++ [.lst ((isortI (Ps.map runRow)).map tupI)])) (by simp only [tupleG, seqD, h8]) ?_
      refine ⟨by simp only [runsM, hPs], ?_⟩
      refine Pre1.app ?_ _
      exact q.fresh (S0 := S) (((p2.trans p3)).trans p4) (by simp; have := p1.len; omega)
  · exact ⟨.refl _ _, by simpa using hF4, none, none, none, rfl⟩
end RF

end

/-! ## M05r -/
section
set_option maxRecDepth 100000
namespace RF
open PySem PySem.W L2
def numsN (c : Nat) : List Nat := (List.range 8).filter (bitN c)
def whiteN (c : Nat) : List Nat := (List.range 8).filter fun k => !(bitN c k)
def whiteC (c : Nat) : List Cell := (nearC (0, 0)).filter fun d => !decide (d ∈ roundC c)
/-- what is reckoned of a code, over whole numbers alone -/
def pureOk (c : Nat) : Bool := decide (isortZ ((roundC c).map fun d => ((idxC d O8 0 : Nat) : Int)) = (numsN c).map Int.ofNat) && (roundC c).all (fun d => decide (d ∈ O8)) && lotsOk true (numsN c) && lotsOk false (whiteN c) && decide ((partsM sidesC (whiteC c)).length ≤ 8) && decide ((partsM nearC (roundC c)).length ≤ 8)
theorem pureOk_all : ((List.range 256).all pureOk) = true := by decide +kernel
def simM (c : Nat) : Bool := decide ((((partsM sidesC (whiteC c)).filter fun room => (sidesC (0, 0)).any fun d => decide (d ∈ room)).length : Int) = 1) && decide (((partsM nearC (roundC c)).length : Int) = 1)
theorem pureOk_at {c : Nat} (hc : c < 256) : pureOk c = true := by
  have := pureOk_all
  rw [List.all_eq_true] at this
  exact this c (by simpa using hc)
theorem roundC_len (c : Nat) : (roundC c).length ≤ 8 := by
  simp only [roundC, List.length_map]
  exact Nat.le_trans (List.length_filter_le _ _) (by simp)
theorem numsN_len (c : Nat) : (numsN c).length ≤ 8 := Nat.le_trans (List.length_filter_le _ _) (by simp)
abbrev RoundOk : Prop := ∀ c : Nat, c < 256 → ∀ S, W (m__law_round [.int c] S) (Lst (csD (roundC c)) S)
theorem numbers_ok (R : RoundOk) {c : Nat} (hc : c < 256) (S : Store) : W (m__law_numbers [.int c] S) (Lst (numD (numsN c)) S) := by
  have ok := pureOk_at hc
  simp only [pureOk, Bool.and_eq_true, List.all_eq_true, decide_eq_true_eq] at ok
  have hl := roundC_len c
  rw [m__law_numbers, w_runM]
  simp [b__law_numbers, most, -w_lcE]
  refine (near_ok (0, 0) S).imp ?_
  rintro ⟨d, S1⟩ ⟨a, rfl, p1, ha, h1⟩
  dsimp only at p1 h1
  simp [-w_lcE]
  refine (lc_map (csD (roundC c)) (fun d => .int (idxC (dC d) O8 0 : Nat)) (by simp [LF]; omega) (by simp [most]; omega) ?_ ?_).imp ?_
  · simp
    refine (R c hc S1).imp ?_
    rintro ⟨d, S2⟩ ⟨k, rfl, p2, _, h2⟩
    dsimp only at p2 h2
    exact ⟨_, srcD_lst h2, p2, items_lst h2⟩
  · intro j y hy S5 p
    obtain ⟨c', hc', rfl⟩ := csD_get hy
    have ha5 := h1.pre p
    simp [wipeD, mk_lst ha5]
    refine w_index ha5 (ok.1.1.1.1.2 c' (List.mem_of_getElem? hc')) ?_
    exact ⟨rfl, .refl _⟩
  · rintro ⟨d, S5⟩ ⟨k5, rfl, p5, hk5, h5⟩
    dsimp only at p5 h5 hk5 ⊢
    have e5 : (csD (roundC c)).map (fun d => D.int (idxC (dC d) O8 0 : Nat)) = ((roundC c).map fun c => ((idxC c O8 0 : Nat) : Int)).map D.int := by
      simp [csD, Function.comp_def]
    rw [e5] at h5
    refine .of (srt_ints (is := (roundC c).map fun c => ((idxC c O8 0 : Nat) : Int)) (by simp only [lstD, h5]) (by simp [most]; omega)) ?_
    rw [ok.1.1.1.1.1]
    have : ((numsN c).map Int.ofNat).map D.int = numD (numsN c) := by rw [List.map_map]; rfl
    rw [this]
    exact ⟨_, rfl, (p1.trans p5).app _, by have := p1.len; have := p5.len; omega, At.new _ _⟩
theorem not_in_nums (c k : Nat) (hk : k < 8) : decide ((k : Int) ∈ (numsN c).map Int.ofNat) = bitN c k := by
  rw [Bool.eq_iff_iff, decide_eq_true_eq, List.mem_map]
  simp only [numsN, List.mem_filter, List.mem_range]
  constructor
  · rintro ⟨x, ⟨h1, h2⟩, e⟩
    have : x = k := by simp only [Int.ofNat_eq_natCast] at e; omega
    exact this ▸ h2
  · intro h
    exact ⟨k, ⟨hk, h⟩, rfl⟩
theorem law_simple_ok (R : RoundOk) {c : Nat} (hc : c < 256) (S : Store) : W (m__law_is_simple [.int c] S) (Val (.bl (simM c)) S) := by
  have ok := pureOk_at hc
  simp only [pureOk, Bool.and_eq_true, List.all_eq_true, decide_eq_true_eq] at ok
  have hl := roundC_len c
  rw [m__law_is_simple, w_runM]
  simp [b__law_is_simple, most, -w_lcE]
  refine (R c hc S).imp ?_
  rintro ⟨d, S1⟩ ⟨a, rfl, p1, ha, h1⟩
  dsimp only at p1 h1
  simp [-w_lcE]
  refine (lc_pure (csD (nearC (0, 0))) (fun d => if (fun c' => !decide (c' ∈ roundC c)) (dC d) = true then some d else none) (by simp [nearC, LF]) (by simp [nearC, most]) ?_ ?_).imp ?_
  · simp [most]
    refine (near_ok (0, 0) S1).imp ?_
    rintro ⟨d, S2⟩ ⟨k, rfl, p2, _, h2⟩
    dsimp only at p2 h2
    exact ⟨_, srcD_lst h2, p2, items_lst h2⟩
  · intro j y hy S5 p
    obtain ⟨c', hc', rfl⟩ := csD_get hy
    have ha5 := h1.pre p
    simp [wipeD, PK0, cmpD]
    refine .of (in_lst_en (α := Cell) (by decide) true c' (roundC c) ha5) ?_
    by_cases hm : c' ∈ roundC c <;> simp [hm, flipB, Pre1.refl]
  rintro ⟨d, S2⟩ ⟨b, rfl, p2, hb, h2⟩
  dsimp only at p2 h2
  rw [filt_map (fun c' => !decide (c' ∈ roundC c)) _ (fun c => rfl)] at h2
  change At S2 b (.lst (csD (whiteC c))) at h2
  have hw : (whiteC c).length ≤ 8 := Nat.le_trans (List.length_filter_le _ _) (by simp [nearC])
  simp [-w_lcE]
  refine (lc_pure ((partsM sidesC (whiteC c)).map fun p => .tup (csD p)) (fun d => match d with | .tup ds => if ((sidesC (0, 0)).any fun c' => decide (c' ∈ ds.map dC)) = true then some (.tup ds) else none | _ => none) ?_ ?_ ?_ ?_).imp ?_
  · simp [LF]; have := ok.1.2; omega
  · simp [most]; have := ok.1.2; omega
  · simp
    refine (parts_ok false h2 (by omega)).imp ?_
    rintro ⟨d, S3⟩ ⟨k, rfl, p3, _, h3⟩
    dsimp only at p3 h3
    exact ⟨_, srcD_lst h3, p3, items_lst h3⟩
  · intro i x hx S' p
    rw [List.getElem?_map] at hx
    cases hs : (partsM sidesC (whiteC c))[i]? with
    | none => rw [hs] at hx; cases hx
    | some room =>
      rw [hs] at hx
      cases hx
      simp [wipeD, -w_lcE]
      have ed : (csD room).map dC = room := by simp [csD, Function.comp_def]
      refine (lc_map (csD (sidesC (0, 0))) (fun d => .bl (decide (dC d ∈ room))) (by simp [sidesC, LF]) (by simp [sidesC, most]) ?_ ?_).imp ?_
      · simp [most]
        refine (sides_ok (0, 0) S').imp ?_
        rintro ⟨d, S4⟩ ⟨k, rfl, p4, _, h4⟩
        dsimp only at p4 h4
        exact ⟨_, srcD_lst h4, p4, items_lst h4⟩
      · intro j y hy S5 p
        obtain ⟨c', hc', rfl⟩ := csD_get hy
        simp [wipeD, PK0, cmpD]
        refine .of (in_tup_en (α := Cell) (by decide) false c' room S5) ?_
        simp [flipB, Pre1.refl]
        exact decide_eq_decide.mpr Iff.rfl
      · rintro ⟨d, S5⟩ ⟨k5, rfl, p5, _, h5⟩
        dsimp only at p5 h5 ⊢
        have e5 : (csD (sidesC (0, 0))).map (fun d => D.bl (decide (dC d ∈ room))) = ((sidesC (0, 0)).map fun c => decide (c ∈ room)).map D.bl := by
          simp [csD, Function.comp_def]
          intro _ _ _; exact decide_eq_decide.mpr Iff.rfl
        rw [e5] at h5
        have eb : ∀ l : List Bool, blsOf (l.map D.bl) = some l := by
          intro l
          induction l with
          | nil => rfl
          | cons a r ih => simp only [List.map_cons, blsOf, ih]
        refine .of (a := (.bl ((sidesC (0, 0)).any fun c => decide (c ∈ room)), S5)) (by simp only [overG, lstD, h5, eb, anyB]; simp [List.any_map, Function.comp_def]) ?_
        simp only [trK_bl]
        have e6 : ((sidesC (0, 0)).any fun c' => decide (c' ∈ (csD room).map dC)) = ((sidesC (0, 0)).any fun c => decide (c ∈ room)) := by rw [ed]
        by_cases hb : ((sidesC (0, 0)).any fun c => decide (c ∈ room)) = true
        · rw [e6, if_pos hb]
          exact ⟨hb, rfl, p5⟩
        · rw [e6, if_neg hb]
          exact ⟨by simpa using hb, p5⟩
  rintro ⟨d, S3⟩ ⟨e, rfl, p3, he, h3⟩
  dsimp only at p3 h3
  have e3 : ((partsM sidesC (whiteC c)).map fun p => D.tup (csD p)).filterMap (fun d => match d with | .tup ds => if ((sidesC (0, 0)).any fun c' => decide (c' ∈ ds.map dC)) = true then some (D.tup ds) else none | _ => none) = ((partsM sidesC (whiteC c)).filter fun room => (sidesC (0, 0)).any fun d => decide (d ∈ room)).map fun p => D.tup (csD p) := by
    generalize partsM sidesC (whiteC c) = L
    induction L with
    | nil => rfl
    | cons r L ih =>
      have ed : (csD r).map dC = r := by simp [csD, Function.comp_def]
      rw [List.map_cons, List.filterMap_cons, List.filter_cons]
      simp only [ed]
      split
      · rename_i h; split at h
        · cases h
        · rename_i hb; rw [if_neg hb]; exact ih
      · rename_i h; split at h
        · rename_i hb; rw [if_pos hb]; cases h; rw [List.map_cons, ih]
        · cases h
  rw [e3] at h3
  have h13 := (h1.pre p2).pre p3
  simp [lenG, seqD, h3]
  refine .of (eq_en (α := Int) (by decide) _ 1 S3) ?_
  simp only [trK_bl]
  refine ⟨fun hz => ?_, fun hz => ?_⟩
  · refine (parts_ok true h13 (by omega)).imp ?_
    rintro ⟨d, S4⟩ ⟨k, rfl, p4, _, h4⟩
    dsimp only at p4 h4
    simp [h4]
    refine .of (eq_en (α := Int) (by decide) _ 1 S4) ?_
    refine ⟨?_, ((p1.trans p2).trans p3).trans p4⟩
    simp only [simM, hz, Bool.true_and]
    simp [nbOf]
  · refine ⟨?_, (p1.trans p2).trans p3⟩
    simp only [simM, hz, Bool.false_and]
end RF

end

/-! ## M05s -/
section
set_option maxRecDepth 100000
namespace RF
open PySem PySem.W L2
def shiftC (d : Cell) : Cell := (d.1 + 3, d.2 - 4)
structure ProgOk : Prop where
  round : RoundOk
  nums : ∀ c : Nat, c < 256 → ∀ S, W (m_code_numbers [.int c] S) (Val (.tup (numD (numsN c))) S)
  pieces : ∀ c : Nat, c < 256 → ∀ S, W (m_code_pieces [.int c] S) (Val (.tup ((runsM true (numsN c)).map tupI)) S)
  rooms : ∀ c : Nat, c < 256 → ∀ S, W (m_code_rooms [.int c] S) (Val (.tup ((runsM false (whiteN c)).map tupI)) S)
  sim : ∀ c : Nat, c < 256 → ∀ S, W (m_is_simple_code [.int c] S) (Val (.bl (simM c)) S)
  cells : ∀ c : Nat, c < 256 → ∀ S, W (m_cells_of_code [.tup [.int 3, .int (-4)], .int c] S) (Val (.tup (csD (sortC ((roundC c).map shiftC)))) S)
theorem rows_en (rs : List (List Int)) : D.tup (rs.map tupI) = En.d (⟨rs.map Tup.mk⟩ : Tup (Tup Int)) := by
  show _ = D.tup _
  congr 1
  rw [List.map_map]
  rfl
theorem ne_rows (rs : List (List Int)) (S : Store) : eqD true (.tup (rs.map tupI)) (.tup (rs.map tupI)) S = some (.bl false, S) := by
  rw [rows_en, ne_en (by decide)]
  simp
theorem code_right_ok (P : ProgOk) {c : Nat} (hc : c < 256) (S : Store) : W (m__law_code_right [.int c] S) (Val (.bl true) S) := by
  have ok := pureOk_at hc
  simp only [pureOk, Bool.and_eq_true, List.all_eq_true, decide_eq_true_eq] at ok
  have hl := roundC_len c
  have hn := numsN_len c
  rw [m__law_code_right, w_runM]
  simp [b__law_code_right, -w_lcE]
  refine (numbers_ok P.round hc S).imp ?_
  rintro ⟨d, S1⟩ ⟨a, rfl, p1, _, h1⟩
  dsimp only at p1 h1
  simp [-w_lcE]
  refine (lc_pure (rgL 0 8) (fun d => match d with | .int k => if bitN c k.toNat then none else some (.int k) | _ => none) (by simp [rgL, LF]) (by simp [rgL, most]) ?_ ?_).imp ?_
  · simp [rg62, Pre1.refl]; exact items_rng _ _ _
  · intro i x hx S' p
    obtain ⟨hi, rfl⟩ := rg_get hx
    simp [wipeD, PK0, cmpD]
    have e : numD (numsN c) = ((numsN c).map Int.ofNat).map En.d := by rw [List.map_map]; rfl
    have h1' := h1.pre p
    rw [e] at h1'
    refine .of (in_lst_en (α := Int) (by decide) true (i : Int) ((numsN c).map Int.ofNat) h1') ?_
    rw [not_in_nums c i hi]
    by_cases hb : bitN c i = true <;> simp [hb, flipB, Pre1.refl]
  rintro ⟨d, S2⟩ ⟨b, rfl, p2, hb, h2⟩
  dsimp only at p2 h2
  have e2 : (rgL 0 8).filterMap (fun d => match d with | .int k => if bitN c k.toNat then none else some (D.int k) | _ => none) = numD (whiteN c) := by
    rw [rgL, List.filterMap_map, numD, whiteN]
    generalize List.range 8 = L
    induction L with
    | nil => rfl
    | cons k r ih =>
      simp only [List.filterMap_cons, Function.comp_def, List.filter_cons] at ih ⊢
      have : (0 : Int) + (k : Nat) = (k : Int) := by omega
      rw [this, Int.toNat_natCast]
      by_cases hs : bitN c k = true <;> simp [hs] <;> simpa using ih
  rw [e2] at h2
  simp [-w_lcE]
  refine (P.nums c hc S2).imp ?_
  rintro ⟨d, S3⟩ ⟨e, p3⟩
  simp only at e p3
  subst e
  have h13 := (h1.pre p2).pre p3
  refine .of (a := (.tup (numD (numsN c)), S3)) (by simp only [tupleG, seqD, h13]) ?_
  have en : D.tup (numD (numsN c)) = En.d (⟨(numsN c).map Int.ofNat⟩ : Tup Int) := by
    show _ = D.tup _
    congr 1
    rw [List.map_map]; rfl
  refine .of (a := (.bl false, S3)) (by simp only [cmpD]; rw [en, ne_en (by decide)]; simp) ?_
  simp [-w_lcE]
  refine (P.pieces c hc S3).imp ?_
  rintro ⟨d, S4⟩ ⟨e, p4⟩
  simp only at e p4
  subst e
  refine (runs_ok true (h13.pre p4) ok.1.1.1.2).imp ?_
  rintro ⟨d, S5⟩ ⟨e, p5⟩
  simp only at e p5
  subst e
  refine .of (ne_rows _ S5) ?_
  simp [-w_lcE]
  refine (P.rooms c hc S5).imp ?_
  rintro ⟨d, S6⟩ ⟨e, p6⟩
  simp only at e p6
  subst e
  refine (runs_ok false ((((h2.pre p3).pre p4).pre p5).pre p6) ok.1.1.2).imp ?_
  rintro ⟨d, S7⟩ ⟨e, p7⟩
  simp only at e p7
  subst e
  refine .of (ne_rows _ S7) ?_
  simp [-w_lcE]
  refine (P.sim c hc S7).imp ?_
  rintro ⟨d, S8⟩ ⟨e, p8⟩
  simp only at e p8
  subst e
  refine .of (repr_bl _ S8) ?_
  refine (law_simple_ok P.round hc S8).imp ?_
  rintro ⟨d, S9⟩ ⟨e, p9⟩
  simp only at e p9
  subst e
  refine .of (repr_bl _ S9) ?_
  refine .of (repr_ne _ S9) ?_
  simp [-w_lcE, most]
  refine (P.cells c hc S9).imp ?_
  rintro ⟨d, S10⟩ ⟨e, p10⟩
  simp only at e p10
  subst e
  refine (lc_map (csD (roundC c)) (fun d => cD (shiftC (dC d))) (by simp [LF]; omega) (by simp [most]; omega) ?_ ?_).imp ?_
  · simp
    refine (P.round c hc S10).imp ?_
    rintro ⟨d, S11⟩ ⟨k, rfl, p11, _, h11⟩
    dsimp only at p11 h11
    exact ⟨_, srcD_lst h11, p11, items_lst h11⟩
  · intro j y hy S5 p
    obtain ⟨c', hc', rfl⟩ := csD_get hy
    simp [wipeD, most, shiftC, Pre1.refl]
  rintro ⟨d, S11⟩ ⟨k, rfl, p11, _, h11⟩
  dsimp only at p11 h11
  have e11 : (csD (roundC c)).map (fun d => cD (shiftC (dC d))) = csD ((roundC c).map shiftC) := by
    simp [csD, Function.comp_def]
  rw [e11] at h11
  dsimp only
  refine tup_srt h11 (by simp [most]; omega) ?_
  refine .of (a := (.bl true, _)) (by simp only [cmpD]; rw [show D.tup (csD (sortC ((roundC c).map shiftC))) = En.d (⟨sortC ((roundC c).map shiftC)⟩ : Tup Cell) from rfl, eq_en (by decide)]; simp only [decide_true]; rfl) ?_
  exact ⟨rfl, (((((((((((p1.trans p2).trans p3).trans p4).trans p5).trans p6).trans p7).trans p8).trans p9).trans p10).trans p11).app _)⟩
end RF

end

/-! ## K05 -/
section
set_option maxRecDepth 1000000
/-! What the program tells of the 256 codes, reckoned. -/
namespace RF
open PySem
def okN (c : Nat) : Bool := match mf_code_numbers [.int c] [] with
  | some (.tup ds, _) => intsOf ds == some ((numsN c).map Int.ofNat)
  | _ => false
def okP (c : Nat) : Bool := match mf_code_pieces [.int c] [] with
  | some (.tup ds, _) => rowsI ds == some (runsM true (numsN c))
  | _ => false
def okQ (c : Nat) : Bool := match mf_code_rooms [.int c] [] with
  | some (.tup ds, _) => rowsI ds == some (runsM false (whiteN c))
  | _ => false
def okS (c : Nat) : Bool := match mf_is_simple_code [.int c] [] with
  | some (.bl a, _) => a == simM c
  | _ => false
def okZ (c : Nat) : Bool := match mf_cells_of_code [.tup [.int 3, .int (-4)], .int c] [] with
  | some (.tup ds, _) => rowsI ds == some ((sortC ((roundC c).map shiftC)).map rowC)
  | _ => false
def okT (c : Nat) : Bool := (List.range 8).all fun t => match mf_turned_code [.int c, .int t] [] with
  | some (.int i, _) => i == tcN c t
  | _ => false
def okO (c : Nat) : Bool := match mf__law_round [.int c] [] with
  | some (.loc n, E) => match (E : List O)[n]? with
    | some (.lst ds) => rowsI ds == some ((roundC c).map rowC)
    | _ => false
  | _ => false
def okC : Bool := match mf_simple_codes [] [] with
  | some (.tup ds, _) => intsOf ds == some (((List.range 256).map Int.ofNat).filter fun i => simM i.toNat)
  | _ => false
theorem chunk16 {f : Nat → Bool} (h : ∀ k, k < 16 → (List.range' (16 * k) 16).all f = true) {c : Nat} (hc : c < 256) : f c = true := by
  have := h (c / 16) (by omega)
  rw [List.all_eq_true] at this
  exact this c (by simp only [List.mem_range'_1]; omega)
end RF

end

/-! ## KA -/
section
set_option maxRecDepth 1000000
namespace RF
open PySem
theorem x_okP_0 : (List.range' 0 16).all okP = true := by decide +kernel
theorem x_okP_1 : (List.range' 16 16).all okP = true := by decide +kernel
theorem x_okP_2 : (List.range' 32 16).all okP = true := by decide +kernel
theorem x_okP_3 : (List.range' 48 16).all okP = true := by decide +kernel
theorem x_okP_4 : (List.range' 64 16).all okP = true := by decide +kernel
theorem x_okP_5 : (List.range' 80 16).all okP = true := by decide +kernel
theorem x_okP_6 : (List.range' 96 16).all okP = true := by decide +kernel
theorem x_okP_7 : (List.range' 112 16).all okP = true := by decide +kernel
theorem x_okP_8 : (List.range' 128 16).all okP = true := by decide +kernel
theorem x_okP_9 : (List.range' 144 16).all okP = true := by decide +kernel
theorem x_okP_10 : (List.range' 160 16).all okP = true := by decide +kernel
theorem x_okP_11 : (List.range' 176 16).all okP = true := by decide +kernel
theorem x_okP_12 : (List.range' 192 16).all okP = true := by decide +kernel
theorem x_okP_13 : (List.range' 208 16).all okP = true := by decide +kernel
theorem x_okP_14 : (List.range' 224 16).all okP = true := by decide +kernel
theorem x_okP_15 : (List.range' 240 16).all okP = true := by decide +kernel
theorem x_okP : ∀ c : Nat, c < 256 → okP c = true := fun c hc => chunk16 (fun k hk => by
  match k, hk with
  | 0, _ => exact x_okP_0
  | 1, _ => exact x_okP_1
  | 2, _ => exact x_okP_2
  | 3, _ => exact x_okP_3
  | 4, _ => exact x_okP_4
  | 5, _ => exact x_okP_5
  | 6, _ => exact x_okP_6
  | 7, _ => exact x_okP_7
  | 8, _ => exact x_okP_8
  | 9, _ => exact x_okP_9
  | 10, _ => exact x_okP_10
  | 11, _ => exact x_okP_11
  | 12, _ => exact x_okP_12
  | 13, _ => exact x_okP_13
  | 14, _ => exact x_okP_14
  | 15, _ => exact x_okP_15
  | k + 16, h => exact absurd h (by omega)) hc
end RF

end

/-! ## KB -/
section
set_option maxRecDepth 1000000
namespace RF
open PySem
theorem x_okQ_0 : (List.range' 0 16).all okQ = true := by decide +kernel
theorem x_okQ_1 : (List.range' 16 16).all okQ = true := by decide +kernel
theorem x_okQ_2 : (List.range' 32 16).all okQ = true := by decide +kernel
theorem x_okQ_3 : (List.range' 48 16).all okQ = true := by decide +kernel
theorem x_okQ_4 : (List.range' 64 16).all okQ = true := by decide +kernel
theorem x_okQ_5 : (List.range' 80 16).all okQ = true := by decide +kernel
theorem x_okQ_6 : (List.range' 96 16).all okQ = true := by decide +kernel
theorem x_okQ_7 : (List.range' 112 16).all okQ = true := by decide +kernel
theorem x_okQ_8 : (List.range' 128 16).all okQ = true := by decide +kernel
theorem x_okQ_9 : (List.range' 144 16).all okQ = true := by decide +kernel
theorem x_okQ_10 : (List.range' 160 16).all okQ = true := by decide +kernel
theorem x_okQ_11 : (List.range' 176 16).all okQ = true := by decide +kernel
theorem x_okQ_12 : (List.range' 192 16).all okQ = true := by decide +kernel
theorem x_okQ_13 : (List.range' 208 16).all okQ = true := by decide +kernel
theorem x_okQ_14 : (List.range' 224 16).all okQ = true := by decide +kernel
theorem x_okQ_15 : (List.range' 240 16).all okQ = true := by decide +kernel
theorem x_okQ : ∀ c : Nat, c < 256 → okQ c = true := fun c hc => chunk16 (fun k hk => by
  match k, hk with
  | 0, _ => exact x_okQ_0
  | 1, _ => exact x_okQ_1
  | 2, _ => exact x_okQ_2
  | 3, _ => exact x_okQ_3
  | 4, _ => exact x_okQ_4
  | 5, _ => exact x_okQ_5
  | 6, _ => exact x_okQ_6
  | 7, _ => exact x_okQ_7
  | 8, _ => exact x_okQ_8
  | 9, _ => exact x_okQ_9
  | 10, _ => exact x_okQ_10
  | 11, _ => exact x_okQ_11
  | 12, _ => exact x_okQ_12
  | 13, _ => exact x_okQ_13
  | 14, _ => exact x_okQ_14
  | 15, _ => exact x_okQ_15
  | k + 16, h => exact absurd h (by omega)) hc
end RF

end

/-! ## KC -/
section
set_option maxRecDepth 1000000
namespace RF
open PySem
theorem x_okN_0 : (List.range' 0 16).all okN = true := by decide +kernel
theorem x_okN_1 : (List.range' 16 16).all okN = true := by decide +kernel
theorem x_okN_2 : (List.range' 32 16).all okN = true := by decide +kernel
theorem x_okN_3 : (List.range' 48 16).all okN = true := by decide +kernel
theorem x_okN_4 : (List.range' 64 16).all okN = true := by decide +kernel
theorem x_okN_5 : (List.range' 80 16).all okN = true := by decide +kernel
theorem x_okN_6 : (List.range' 96 16).all okN = true := by decide +kernel
theorem x_okN_7 : (List.range' 112 16).all okN = true := by decide +kernel
theorem x_okN_8 : (List.range' 128 16).all okN = true := by decide +kernel
theorem x_okN_9 : (List.range' 144 16).all okN = true := by decide +kernel
theorem x_okN_10 : (List.range' 160 16).all okN = true := by decide +kernel
theorem x_okN_11 : (List.range' 176 16).all okN = true := by decide +kernel
theorem x_okN_12 : (List.range' 192 16).all okN = true := by decide +kernel
theorem x_okN_13 : (List.range' 208 16).all okN = true := by decide +kernel
theorem x_okN_14 : (List.range' 224 16).all okN = true := by decide +kernel
theorem x_okN_15 : (List.range' 240 16).all okN = true := by decide +kernel
theorem x_okN : ∀ c : Nat, c < 256 → okN c = true := fun c hc => chunk16 (fun k hk => by
  match k, hk with
  | 0, _ => exact x_okN_0
  | 1, _ => exact x_okN_1
  | 2, _ => exact x_okN_2
  | 3, _ => exact x_okN_3
  | 4, _ => exact x_okN_4
  | 5, _ => exact x_okN_5
  | 6, _ => exact x_okN_6
  | 7, _ => exact x_okN_7
  | 8, _ => exact x_okN_8
  | 9, _ => exact x_okN_9
  | 10, _ => exact x_okN_10
  | 11, _ => exact x_okN_11
  | 12, _ => exact x_okN_12
  | 13, _ => exact x_okN_13
  | 14, _ => exact x_okN_14
  | 15, _ => exact x_okN_15
  | k + 16, h => exact absurd h (by omega)) hc
theorem x_okS_0 : (List.range' 0 16).all okS = true := by decide +kernel
theorem x_okS_1 : (List.range' 16 16).all okS = true := by decide +kernel
theorem x_okS_2 : (List.range' 32 16).all okS = true := by decide +kernel
theorem x_okS_3 : (List.range' 48 16).all okS = true := by decide +kernel
theorem x_okS_4 : (List.range' 64 16).all okS = true := by decide +kernel
theorem x_okS_5 : (List.range' 80 16).all okS = true := by decide +kernel
theorem x_okS_6 : (List.range' 96 16).all okS = true := by decide +kernel
theorem x_okS_7 : (List.range' 112 16).all okS = true := by decide +kernel
theorem x_okS_8 : (List.range' 128 16).all okS = true := by decide +kernel
theorem x_okS_9 : (List.range' 144 16).all okS = true := by decide +kernel
theorem x_okS_10 : (List.range' 160 16).all okS = true := by decide +kernel
theorem x_okS_11 : (List.range' 176 16).all okS = true := by decide +kernel
theorem x_okS_12 : (List.range' 192 16).all okS = true := by decide +kernel
theorem x_okS_13 : (List.range' 208 16).all okS = true := by decide +kernel
theorem x_okS_14 : (List.range' 224 16).all okS = true := by decide +kernel
theorem x_okS_15 : (List.range' 240 16).all okS = true := by decide +kernel
theorem x_okS : ∀ c : Nat, c < 256 → okS c = true := fun c hc => chunk16 (fun k hk => by
  match k, hk with
  | 0, _ => exact x_okS_0
  | 1, _ => exact x_okS_1
  | 2, _ => exact x_okS_2
  | 3, _ => exact x_okS_3
  | 4, _ => exact x_okS_4
  | 5, _ => exact x_okS_5
  | 6, _ => exact x_okS_6
  | 7, _ => exact x_okS_7
  | 8, _ => exact x_okS_8
  | 9, _ => exact x_okS_9
  | 10, _ => exact x_okS_10
  | 11, _ => exact x_okS_11
  | 12, _ => exact x_okS_12
  | 13, _ => exact x_okS_13
  | 14, _ => exact x_okS_14
  | 15, _ => exact x_okS_15
  | k + 16, h => exact absurd h (by omega)) hc
theorem x_okZ_0 : (List.range' 0 16).all okZ = true := by decide +kernel
theorem x_okZ_1 : (List.range' 16 16).all okZ = true := by decide +kernel
theorem x_okZ_2 : (List.range' 32 16).all okZ = true := by decide +kernel
theorem x_okZ_3 : (List.range' 48 16).all okZ = true := by decide +kernel
theorem x_okZ_4 : (List.range' 64 16).all okZ = true := by decide +kernel
theorem x_okZ_5 : (List.range' 80 16).all okZ = true := by decide +kernel
theorem x_okZ_6 : (List.range' 96 16).all okZ = true := by decide +kernel
theorem x_okZ_7 : (List.range' 112 16).all okZ = true := by decide +kernel
theorem x_okZ_8 : (List.range' 128 16).all okZ = true := by decide +kernel
theorem x_okZ_9 : (List.range' 144 16).all okZ = true := by decide +kernel
theorem x_okZ_10 : (List.range' 160 16).all okZ = true := by decide +kernel
theorem x_okZ_11 : (List.range' 176 16).all okZ = true := by decide +kernel
theorem x_okZ_12 : (List.range' 192 16).all okZ = true := by decide +kernel
theorem x_okZ_13 : (List.range' 208 16).all okZ = true := by decide +kernel
theorem x_okZ_14 : (List.range' 224 16).all okZ = true := by decide +kernel
theorem x_okZ_15 : (List.range' 240 16).all okZ = true := by decide +kernel
theorem x_okZ : ∀ c : Nat, c < 256 → okZ c = true := fun c hc => chunk16 (fun k hk => by
  match k, hk with
  | 0, _ => exact x_okZ_0
  | 1, _ => exact x_okZ_1
  | 2, _ => exact x_okZ_2
  | 3, _ => exact x_okZ_3
  | 4, _ => exact x_okZ_4
  | 5, _ => exact x_okZ_5
  | 6, _ => exact x_okZ_6
  | 7, _ => exact x_okZ_7
  | 8, _ => exact x_okZ_8
  | 9, _ => exact x_okZ_9
  | 10, _ => exact x_okZ_10
  | 11, _ => exact x_okZ_11
  | 12, _ => exact x_okZ_12
  | 13, _ => exact x_okZ_13
  | 14, _ => exact x_okZ_14
  | 15, _ => exact x_okZ_15
  | k + 16, h => exact absurd h (by omega)) hc
theorem x_okT_0 : (List.range' 0 16).all okT = true := by decide +kernel
theorem x_okT_1 : (List.range' 16 16).all okT = true := by decide +kernel
theorem x_okT_2 : (List.range' 32 16).all okT = true := by decide +kernel
theorem x_okT_3 : (List.range' 48 16).all okT = true := by decide +kernel
theorem x_okT_4 : (List.range' 64 16).all okT = true := by decide +kernel
theorem x_okT_5 : (List.range' 80 16).all okT = true := by decide +kernel
theorem x_okT_6 : (List.range' 96 16).all okT = true := by decide +kernel
theorem x_okT_7 : (List.range' 112 16).all okT = true := by decide +kernel
theorem x_okT_8 : (List.range' 128 16).all okT = true := by decide +kernel
theorem x_okT_9 : (List.range' 144 16).all okT = true := by decide +kernel
theorem x_okT_10 : (List.range' 160 16).all okT = true := by decide +kernel
theorem x_okT_11 : (List.range' 176 16).all okT = true := by decide +kernel
theorem x_okT_12 : (List.range' 192 16).all okT = true := by decide +kernel
theorem x_okT_13 : (List.range' 208 16).all okT = true := by decide +kernel
theorem x_okT_14 : (List.range' 224 16).all okT = true := by decide +kernel
theorem x_okT_15 : (List.range' 240 16).all okT = true := by decide +kernel
theorem x_okT : ∀ c : Nat, c < 256 → okT c = true := fun c hc => chunk16 (fun k hk => by
  match k, hk with
  | 0, _ => exact x_okT_0
  | 1, _ => exact x_okT_1
  | 2, _ => exact x_okT_2
  | 3, _ => exact x_okT_3
  | 4, _ => exact x_okT_4
  | 5, _ => exact x_okT_5
  | 6, _ => exact x_okT_6
  | 7, _ => exact x_okT_7
  | 8, _ => exact x_okT_8
  | 9, _ => exact x_okT_9
  | 10, _ => exact x_okT_10
  | 11, _ => exact x_okT_11
  | 12, _ => exact x_okT_12
  | 13, _ => exact x_okT_13
  | 14, _ => exact x_okT_14
  | 15, _ => exact x_okT_15
  | k + 16, h => exact absurd h (by omega)) hc
theorem x_okO_0 : (List.range' 0 16).all okO = true := by decide +kernel
theorem x_okO_1 : (List.range' 16 16).all okO = true := by decide +kernel
theorem x_okO_2 : (List.range' 32 16).all okO = true := by decide +kernel
theorem x_okO_3 : (List.range' 48 16).all okO = true := by decide +kernel
theorem x_okO_4 : (List.range' 64 16).all okO = true := by decide +kernel
theorem x_okO_5 : (List.range' 80 16).all okO = true := by decide +kernel
theorem x_okO_6 : (List.range' 96 16).all okO = true := by decide +kernel
theorem x_okO_7 : (List.range' 112 16).all okO = true := by decide +kernel
theorem x_okO_8 : (List.range' 128 16).all okO = true := by decide +kernel
theorem x_okO_9 : (List.range' 144 16).all okO = true := by decide +kernel
theorem x_okO_10 : (List.range' 160 16).all okO = true := by decide +kernel
theorem x_okO_11 : (List.range' 176 16).all okO = true := by decide +kernel
theorem x_okO_12 : (List.range' 192 16).all okO = true := by decide +kernel
theorem x_okO_13 : (List.range' 208 16).all okO = true := by decide +kernel
theorem x_okO_14 : (List.range' 224 16).all okO = true := by decide +kernel
theorem x_okO_15 : (List.range' 240 16).all okO = true := by decide +kernel
theorem x_okO : ∀ c : Nat, c < 256 → okO c = true := fun c hc => chunk16 (fun k hk => by
  match k, hk with
  | 0, _ => exact x_okO_0
  | 1, _ => exact x_okO_1
  | 2, _ => exact x_okO_2
  | 3, _ => exact x_okO_3
  | 4, _ => exact x_okO_4
  | 5, _ => exact x_okO_5
  | 6, _ => exact x_okO_6
  | 7, _ => exact x_okO_7
  | 8, _ => exact x_okO_8
  | 9, _ => exact x_okO_9
  | 10, _ => exact x_okO_10
  | 11, _ => exact x_okO_11
  | 12, _ => exact x_okO_12
  | 13, _ => exact x_okO_13
  | 14, _ => exact x_okO_14
  | 15, _ => exact x_okO_15
  | k + 16, h => exact absurd h (by omega)) hc
theorem x_okC : okC = true := by decide +kernel
end RF

end

/-! ## M05t -/
section
set_option maxRecDepth 100000
namespace RF
open PySem PySem.W L2
theorem ints_nil (l : List Int) (p : Nat) : (l.map D.int).map (shD p) = l.map D.int := by
  rw [List.map_map]; rfl
theorem a_nums {c : Nat} (hc : c < 256) (S : Store) : W (m_code_numbers [.int c] S) (Val (.tup (numD (numsN c))) S) := by
  refine lift_val sh_m_code_numbers (fun p => ?_) (fun p => by simp [shD]) ?_ S
  · rw [sh_tup]
    have : numD (numsN c) = ((numsN c).map Int.ofNat).map D.int := by rw [List.map_map]; rfl
    rw [this, ints_nil]
  · have h := x_okN c hc
    rw [mq_code_numbers]
    unfold okN at h
    split at h
    · rename_i ds E e
      rw [beq_iff_eq] at h
      rw [e, intsOf_map h]
      exact ⟨E, by rw [List.map_map]; rfl⟩
    · cases h
theorem rows_val {ds : List D} {rs : List (List Int)} (h : (rowsI ds == some rs) = true) : ds = rs.map tupI := rowsI_map (beq_iff_eq.mp h)
theorem a_pieces {c : Nat} (hc : c < 256) (S : Store) : W (m_code_pieces [.int c] S) (Val (.tup ((runsM true (numsN c)).map tupI)) S) := by
  refine lift_val sh_m_code_pieces (fun p => ?_) (fun p => by simp [shD]) ?_ S
  · rw [sh_tup, rows_sh]
  · have h := x_okP c hc
    rw [mq_code_pieces]
    unfold okP at h
    split at h
    · rename_i ds E e
      rw [e, rows_val h]
      exact ⟨E, rfl⟩
    · cases h
theorem a_rooms {c : Nat} (hc : c < 256) (S : Store) : W (m_code_rooms [.int c] S) (Val (.tup ((runsM false (whiteN c)).map tupI)) S) := by
  refine lift_val sh_m_code_rooms (fun p => ?_) (fun p => by simp [shD]) ?_ S
  · rw [sh_tup, rows_sh]
  · have h := x_okQ c hc
    rw [mq_code_rooms]
    unfold okQ at h
    split at h
    · rename_i ds E e
      rw [e, rows_val h]
      exact ⟨E, rfl⟩
    · cases h
theorem a_sim0 {c : Nat} (hc : c < 256) : ∃ E, m_is_simple_code [.int c] [] = some (.bl (simM c), E) := by
  have h := x_okS c hc
  rw [mq_is_simple_code]
  unfold okS at h
  split at h
  · rename_i b E e
    rw [beq_iff_eq] at h
    rw [e, h]
    exact ⟨E, rfl⟩
  · cases h
theorem a_sim {c : Nat} (hc : c < 256) (S : Store) : W (m_is_simple_code [.int c] S) (Val (.bl (simM c)) S) :=
  lift_val sh_m_is_simple_code (fun p => by simp [shD]) (fun p => by simp [shD]) (a_sim0 hc) S
theorem a_cells {c : Nat} (hc : c < 256) (S : Store) : W (m_cells_of_code [.tup [.int 3, .int (-4)], .int c] S) (Val (.tup (csD (sortC ((roundC c).map shiftC)))) S) := by
  refine lift_val sh_m_cells_of_code (fun p => ?_) (fun p => by simp [shD, shDs]) ?_ S
  · rw [sh_tup, csD_flat]
  · have h := x_okZ c hc
    rw [mq_cells_of_code]
    unfold okZ at h
    split at h
    · rename_i ds E e
      rw [e, rows_val h, ← csD_rows]
      exact ⟨E, rfl⟩
    · cases h
theorem a_turned {c t : Nat} (hc : c < 256) (ht : t < 8) (S : Store) : W (m_turned_code [.int c, .int t] S) (Val (.int (tcN c t)) S) := by
  refine lift_val sh_m_turned_code (fun p => by simp [shD]) (fun p => by simp [shD]) ?_ S
  have h := x_okT c hc
  unfold okT at h
  rw [List.all_eq_true] at h
  have h := h t (by simpa using ht)
  rw [mq_turned_code]
  split at h
  · rename_i i E e
    rw [beq_iff_eq] at h
    rw [e, h]
    exact ⟨E, rfl⟩
  · cases h
theorem a_round : RoundOk := by
  intro c hc S
  refine lift_lst sh_m__law_round (fun p => by simp [shD]) ?_ S
  have h := x_okO c hc
  rw [mq__law_round]
  unfold okO at h
  split at h
  · rename_i n E e
    split at h
    · rename_i ds e2
      rw [e]
      refine ⟨n, E, rfl, ?_⟩
      rw [e2, rows_val h, ← csD_rows]
    · cases h
  · cases h
theorem a_prog : ProgOk := ⟨a_round, fun c hc => a_nums hc, fun c hc => a_pieces hc, fun c hc => a_rooms hc, fun c hc => a_sim hc, fun c hc => a_cells hc⟩
theorem simI_eq {c : Nat} (hc : c < 256) : simI c = simM c := by
  obtain ⟨E, e⟩ := a_sim0 hc
  unfold simI
  rw [e]
theorem a_codes (S : Store) : W (m_simple_codes [] S) (Val (.tup ((((List.range 256).map Int.ofNat).filter simI).map D.int)) S) := by
  refine lift_val sh_m_simple_codes (fun p => ?_) (fun p => rfl) ?_ S
  · rw [sh_tup, ints_nil]
  · have h := x_okC
    rw [mq_simple_codes]
    unfold okC at h
    split at h
    · rename_i ds E e
      rw [beq_iff_eq] at h
      rw [e, intsOf_map h]
      have ef : ((List.range 256).map Int.ofNat).filter (fun i => simM i.toNat) = ((List.range 256).map Int.ofNat).filter simI := by
        apply List.filter_congr
        intro i hi
        obtain ⟨k, hk, rfl⟩ := List.mem_map.mp hi
        have := simI_eq (c := k) (by simpa using hk)
        exact this.symm
      exact ⟨E, by rw [ef]⟩
    · cases h
theorem a_all : CodesOk where
  right := fun c hc => code_right_ok a_prog hc
  sim := by
    intro c h0 h1 S
    obtain ⟨k, rfl, hk⟩ : ∃ k : Nat, c = k ∧ k < 256 := ⟨c.toNat, by omega, by omega⟩
    rw [simI_eq hk]
    exact ⟨a_sim hk S, law_simple_ok a_round hk S⟩
  codes := a_codes
  turned := fun c t hc ht => a_turned hc ht
  round := a_round
/-- the pure statement -/
theorem pure05 (ns : List Int) (hl : ns.length ≤ 63) : ∃ S', m_law [.loc 0] [.fro (ns.map D.int)] = some (.bl true, S') := by
  obtain ⟨⟨d, S'⟩, e, h⟩ := law_ok a_all (S := [.fro (ns.map D.int)]) (n := 0) rfl hl
  simp only at h
  subst h
  exact ⟨S', e⟩
end RF

end

/-! ## CF -/
section
set_option maxRecDepth 100000
namespace RF
open PySem
def extra : List (Str × List Str) := [(("picture_of" : Str), ([] : List Str)),
  (("cell_table" : Str), ([("cell" : Str)] : List Str)),
  (("near_cells" : Str), ([] : List Str)),
  (("quarter_turned" : Str), ([("x" : Str), ("y" : Str)] : List Str)),
  (("mirrored" : Str), ([("x" : Str), ("y" : Str)] : List Str)),
  (("posed" : Str), ([] : List Str)),
  (("lot_from" : Str), ([] : List Str)),
  (("lots_in" : Str), ([] : List Str)),
  (("code_in" : Str), ([] : List Str)),
  (("code_at" : Str), ([] : List Str)),
  (("code_numbers" : Str), ([] : List Str)),
  (("code_with" : Str), ([] : List Str)),
  (("cells_of_code" : Str), ([("number" : Str)] : List Str)),
  (("turned_code" : Str), ([("number" : Str)] : List Str)),
  (("number_lots" : Str), ([("number" : Str), ("cell" : Str), ("lot" : Str)] : List Str)),
  (("code_pieces" : Str), ([] : List Str)),
  (("code_rooms" : Str), ([] : List Str)),
  (("is_simple_code" : Str), ([] : List Str)),
  (("simple_codes" : Str), ([] : List Str)),
  (("is_simple_in" : Str), ([] : List Str)),
  (("is_simple" : Str), ([] : List Str)),
  (("simple_cells" : Str), ([] : List Str)),
  (("_law_open_cells" : Str), ([("_law_cell" : Str)] : List Str)),
  (("_law_pick" : Str), ([] : List Str)),
  (("_law_any_order" : Str), ([("_law_lap" : Str)] : List Str)),
  (("_law_sides" : Str), ([] : List Str)),
  (("_law_near" : Str), ([] : List Str)),
  (("_law_parts_by" : Str), ([("_law_cell" : Str)] : List Str)),
  (("_law_frame" : Str), ([("_law_x" : Str), ("_law_y" : Str)] : List Str)),
  (("_law_code" : Str), ([("_law_one" : Str)] : List Str)),
  (("_law_round" : Str), ([] : List Str)),
  (("_law_is_simple" : Str), ([("_law_cell" : Str), ("_law_room" : Str)] : List Str)),
  (("_law_draw_picture" : Str), ([("_law_y" : Str)] : List Str)),
  (("_law_runs_of" : Str), ([("_law_number" : Str), ("_law_cell" : Str)] : List Str)),
  (("_law_numbers" : Str), ([("_law_cell" : Str)] : List Str)),
  (("_law_simple_in" : Str), ([] : List Str)),
  (("_law_draw_apart" : Str), ([("_law_y" : Str), ("_law_cell" : Str)] : List Str)),
  (("_law_turned_cell" : Str), ([] : List Str)),
  (("_law_code_right" : Str), ([("_law_number" : Str), ("_law_x" : Str), ("_law_y" : Str)] : List Str)),
  (("law" : Str), ([("_law_code_here" : Str), ("_law_cell" : Str)] : List Str))]
def fnOf? : Stmt → Option Fn
  | .FunctionDef n a b _ _ _ s _ _ _ => let ps := a.args.map (·.arg); let own := ps ++ (s.names.map (·.1)).filter (fun y => !ps.contains y); some ⟨n, ps, own ++ ((extra.lookup n).getD []).filter (fun y => !own.contains y), .FunctionDef n a b [] none [] s none n ⟨0,0,0,0⟩⟩
  | _ => none
def cfg05 : Cfg := ⟨PySem.Challenge.pw_boneways_k05_codes_and_simple_cells.main.body.filterMap fnOf?,
  [("NEAR_STEPS", .tup [.tup [.int 1, .int 0], .tup [.int 1, .int 1], .tup [.int 0, .int 1], .tup [.int (-1), .int 1], .tup [.int (-1), .int 0], .tup [.int (-1), .int (-1)], .tup [.int 0, .int (-1)], .tup [.int 1, .int (-1)]]),
   ("SIDE_STEPS", .tup [.tup [.int 1, .int 0], .tup [.int 0, .int 1], .tup [.int (-1), .int 0], .tup [.int 0, .int (-1)]])]⟩
end RF

end

/-! ## E05 -/
section
set_option maxRecDepth 100000
namespace RF
open PySem
abbrev CFG : Cfg := cfg05
theorem s_picture_of (k : Nat) : callF CFG F0 (k + 1) "picture_of" = runM 1 4 (b_picture_of LF PK0) := rfl
theorem s_cell_table (k : Nat) : callF CFG F0 (k + 1) "cell_table" = runM 1 2 (b_cell_table LF PK0) := rfl
theorem s_near_cells (k : Nat) : callF CFG F0 (k + 1) "near_cells" = runM 1 5 (b_near_cells LF PK0) := rfl
theorem s_quarter_turned (k : Nat) : callF CFG F0 (k + 1) "quarter_turned" = runM 2 9 (b_quarter_turned LF PK0 (callF CFG F0 k "picture_of")) := rfl
theorem s_mirrored (k : Nat) : callF CFG F0 (k + 1) "mirrored" = runM 1 4 (b_mirrored LF PK0 (callF CFG F0 k "picture_of")) := rfl
theorem s_posed (k : Nat) : callF CFG F0 (k + 1) "posed" = runM 2 4 (b_posed LF PK0 (callF CFG F0 k "quarter_turned") (callF CFG F0 k "mirrored")) := rfl
theorem s_lot_from (k : Nat) : callF CFG F0 (k + 1) "lot_from" = runM 3 12 (b_lot_from LF PK0) := rfl
theorem s_lots_in (k : Nat) : callF CFG F0 (k + 1) "lots_in" = runM 2 10 (b_lots_in LF PK0 (callF CFG F0 k "cell_table") (callF CFG F0 k "lot_from")) := rfl
theorem s_code_in (k : Nat) : callF CFG F0 (k + 1) "code_in" = runM 2 9 (b_code_in LF PK0) := rfl
theorem s_code_at (k : Nat) : callF CFG F0 (k + 1) "code_at" = runM 2 4 (b_code_at LF PK0 (callF CFG F0 k "code_in") (callF CFG F0 k "cell_table")) := rfl
theorem s_code_numbers (k : Nat) : callF CFG F0 (k + 1) "code_numbers" = runM 1 3 (b_code_numbers LF PK0) := rfl
theorem s_code_with (k : Nat) : callF CFG F0 (k + 1) "code_with" = runM 1 2 (b_code_with LF PK0) := rfl
theorem s_cells_of_code (k : Nat) : callF CFG F0 (k + 1) "cells_of_code" = runM 2 7 (b_cells_of_code LF PK0 (callF CFG F0 k "near_cells") (callF CFG F0 k "picture_of") (callF CFG F0 k "code_numbers")) := rfl
theorem s_turned_code (k : Nat) : callF CFG F0 (k + 1) "turned_code" = runM 2 6 (b_turned_code LF PK0 (callF CFG F0 k "code_with") (callF CFG F0 k "code_numbers")) := rfl
theorem s_number_lots (k : Nat) : callF CFG F0 (k + 1) "number_lots" = runM 2 14 (b_number_lots LF PK0 (callF CFG F0 k "picture_of") (callF CFG F0 k "lots_in")) := rfl
theorem s_code_pieces (k : Nat) : callF CFG F0 (k + 1) "code_pieces" = runM 1 4 (b_code_pieces LF PK0 (callF CFG F0 k "number_lots") (callF CFG F0 k "code_numbers")) := rfl
theorem s_code_rooms (k : Nat) : callF CFG F0 (k + 1) "code_rooms" = runM 1 4 (b_code_rooms LF PK0 (callF CFG F0 k "number_lots") (callF CFG F0 k "code_numbers")) := rfl
theorem s_is_simple_code (k : Nat) : callF CFG F0 (k + 1) "is_simple_code" = runM 1 5 (b_is_simple_code LF PK0) := rfl
theorem s_simple_codes (k : Nat) : callF CFG F0 (k + 1) "simple_codes" = runM 0 2 (b_simple_codes LF PK0 (callF CFG F0 k "is_simple_code")) := rfl
theorem s_is_simple_in (k : Nat) : callF CFG F0 (k + 1) "is_simple_in" = runM 2 4 (b_is_simple_in LF PK0 (callF CFG F0 k "is_simple_code") (callF CFG F0 k "code_in")) := rfl
theorem s_is_simple (k : Nat) : callF CFG F0 (k + 1) "is_simple" = runM 2 5 (b_is_simple LF PK0 (callF CFG F0 k "cell_table") (callF CFG F0 k "is_simple_in")) := rfl
theorem s_simple_cells (k : Nat) : callF CFG F0 (k + 1) "simple_cells" = runM 1 4 (b_simple_cells LF PK0 (callF CFG F0 k "cell_table") (callF CFG F0 k "is_simple_in")) := rfl
theorem s__law_open_cells (k : Nat) : callF CFG F0 (k + 1) "_law_open_cells" = runM 1 5 (b__law_open_cells LF PK0) := rfl
theorem s__law_pick (k : Nat) : callF CFG F0 (k + 1) "_law_pick" = runM 2 8 (b__law_pick LF PK0) := rfl
theorem s__law_any_order (k : Nat) : callF CFG F0 (k + 1) "_law_any_order" = runM 2 7 (b__law_any_order LF PK0 (callF CFG F0 k "_law_pick")) := rfl
theorem s__law_sides (k : Nat) : callF CFG F0 (k + 1) "_law_sides" = runM 1 3 (b__law_sides LF PK0) := rfl
theorem s__law_near (k : Nat) : callF CFG F0 (k + 1) "_law_near" = runM 1 4 (b__law_near LF PK0) := rfl
theorem s__law_parts_by (k : Nat) : callF CFG F0 (k + 1) "_law_parts_by" = runM 2 14 (b__law_parts_by LF PK0 (callF CFG F0 k "_law_near") (callF CFG F0 k "_law_sides")) := rfl
theorem s__law_frame (k : Nat) : callF CFG F0 (k + 1) "_law_frame" = runM 1 9 (b__law_frame LF PK0) := rfl
theorem s__law_code (k : Nat) : callF CFG F0 (k + 1) "_law_code" = runM 2 9 (b__law_code LF PK0 (callF CFG F0 k "_law_near")) := rfl
theorem s__law_round (k : Nat) : callF CFG F0 (k + 1) "_law_round" = runM 1 5 (b__law_round LF PK0 (callF CFG F0 k "_law_near")) := rfl
theorem s__law_is_simple (k : Nat) : callF CFG F0 (k + 1) "_law_is_simple" = runM 1 10 (b__law_is_simple LF PK0 (callF CFG F0 k "_law_round") (callF CFG F0 k "_law_near") (callF CFG F0 k "_law_parts_by") (callF CFG F0 k "_law_sides")) := rfl
theorem s__law_draw_picture (k : Nat) : callF CFG F0 (k + 1) "_law_draw_picture" = runM 2 12 (b__law_draw_picture LF PK0 (callF CFG F0 k "_law_pick")) := rfl
theorem s__law_runs_of (k : Nat) : callF CFG F0 (k + 1) "_law_runs_of" = runM 2 11 (b__law_runs_of LF PK0 (callF CFG F0 k "_law_near") (callF CFG F0 k "_law_parts_by")) := rfl
theorem s__law_numbers (k : Nat) : callF CFG F0 (k + 1) "_law_numbers" = runM 1 6 (b__law_numbers LF PK0 (callF CFG F0 k "_law_near") (callF CFG F0 k "_law_round")) := rfl
theorem s__law_simple_in (k : Nat) : callF CFG F0 (k + 1) "_law_simple_in" = runM 2 4 (b__law_simple_in LF PK0 (callF CFG F0 k "_law_is_simple") (callF CFG F0 k "_law_code")) := rfl
theorem s__law_draw_apart (k : Nat) : callF CFG F0 (k + 1) "_law_draw_apart" = runM 2 14 (b__law_draw_apart LF PK0 (callF CFG F0 k "_law_pick") (callF CFG F0 k "_law_draw_picture")) := rfl
theorem s__law_turned_cell (k : Nat) : callF CFG F0 (k + 1) "_law_turned_cell" = runM 2 6 (b__law_turned_cell LF PK0) := rfl
theorem s__law_code_right (k : Nat) : callF CFG F0 (k + 1) "_law_code_right" = runM 1 19 (b__law_code_right LF PK0 (callF CFG F0 k "_law_numbers") (callF CFG F0 k "code_numbers") (callF CFG F0 k "code_pieces") (callF CFG F0 k "_law_runs_of") (callF CFG F0 k "code_rooms") (callF CFG F0 k "is_simple_code") (callF CFG F0 k "_law_is_simple") (callF CFG F0 k "cells_of_code") (callF CFG F0 k "_law_round")) := rfl
theorem s_law (k : Nat) : callF CFG F0 (k + 1) "law" = runM 1 32 (b_law LF PK0 (callF CFG F0 k "_law_open_cells") (callF CFG F0 k "_law_any_order") (callF CFG F0 k "_law_code_right") (callF CFG F0 k "simple_codes") (callF CFG F0 k "_law_is_simple") (callF CFG F0 k "_law_pick") (callF CFG F0 k "_law_turned_cell") (callF CFG F0 k "_law_round") (callF CFG F0 k "turned_code") (callF CFG F0 k "_law_code") (callF CFG F0 k "_law_draw_apart") (callF CFG F0 k "_law_frame") (callF CFG F0 k "posed") (callF CFG F0 k "code_at") (callF CFG F0 k "is_simple") (callF CFG F0 k "_law_simple_in") (callF CFG F0 k "simple_cells")) := rfl

theorem q_picture_of (k : Nat) (h : 1 ≤ k) : callF CFG F0 k "picture_of" = m_picture_of := by
  obtain ⟨k, rfl⟩ : ∃ j, k = j + 1 := ⟨k - 1, by omega⟩
  rw [s_picture_of]
  rfl
theorem q_cell_table (k : Nat) (h : 1 ≤ k) : callF CFG F0 k "cell_table" = m_cell_table := by
  obtain ⟨k, rfl⟩ : ∃ j, k = j + 1 := ⟨k - 1, by omega⟩
  rw [s_cell_table]
  rfl
theorem q_near_cells (k : Nat) (h : 1 ≤ k) : callF CFG F0 k "near_cells" = m_near_cells := by
  obtain ⟨k, rfl⟩ : ∃ j, k = j + 1 := ⟨k - 1, by omega⟩
  rw [s_near_cells]
  rfl
theorem q_quarter_turned (k : Nat) (h : 2 ≤ k) : callF CFG F0 k "quarter_turned" = m_quarter_turned := by
  obtain ⟨k, rfl⟩ : ∃ j, k = j + 1 := ⟨k - 1, by omega⟩
  rw [s_quarter_turned, q_picture_of k (by omega)]
  rfl
theorem q_mirrored (k : Nat) (h : 2 ≤ k) : callF CFG F0 k "mirrored" = m_mirrored := by
  obtain ⟨k, rfl⟩ : ∃ j, k = j + 1 := ⟨k - 1, by omega⟩
  rw [s_mirrored, q_picture_of k (by omega)]
  rfl
theorem q_posed (k : Nat) (h : 3 ≤ k) : callF CFG F0 k "posed" = m_posed := by
  obtain ⟨k, rfl⟩ : ∃ j, k = j + 1 := ⟨k - 1, by omega⟩
  rw [s_posed, q_quarter_turned k (by omega), q_mirrored k (by omega)]
  rfl
theorem q_lot_from (k : Nat) (h : 1 ≤ k) : callF CFG F0 k "lot_from" = m_lot_from := by
  obtain ⟨k, rfl⟩ : ∃ j, k = j + 1 := ⟨k - 1, by omega⟩
  rw [s_lot_from]
  rfl
theorem q_lots_in (k : Nat) (h : 2 ≤ k) : callF CFG F0 k "lots_in" = m_lots_in := by
  obtain ⟨k, rfl⟩ : ∃ j, k = j + 1 := ⟨k - 1, by omega⟩
  rw [s_lots_in, q_cell_table k (by omega), q_lot_from k (by omega)]
  rfl
theorem q_code_in (k : Nat) (h : 1 ≤ k) : callF CFG F0 k "code_in" = m_code_in := by
  obtain ⟨k, rfl⟩ : ∃ j, k = j + 1 := ⟨k - 1, by omega⟩
  rw [s_code_in]
  rfl
theorem q_code_at (k : Nat) (h : 2 ≤ k) : callF CFG F0 k "code_at" = m_code_at := by
  obtain ⟨k, rfl⟩ : ∃ j, k = j + 1 := ⟨k - 1, by omega⟩
  rw [s_code_at, q_code_in k (by omega), q_cell_table k (by omega)]
  rfl
theorem q_code_numbers (k : Nat) (h : 1 ≤ k) : callF CFG F0 k "code_numbers" = m_code_numbers := by
  obtain ⟨k, rfl⟩ : ∃ j, k = j + 1 := ⟨k - 1, by omega⟩
  rw [s_code_numbers]
  rfl
theorem q_code_with (k : Nat) (h : 1 ≤ k) : callF CFG F0 k "code_with" = m_code_with := by
  obtain ⟨k, rfl⟩ : ∃ j, k = j + 1 := ⟨k - 1, by omega⟩
  rw [s_code_with]
  rfl
theorem q_cells_of_code (k : Nat) (h : 2 ≤ k) : callF CFG F0 k "cells_of_code" = m_cells_of_code := by
  obtain ⟨k, rfl⟩ : ∃ j, k = j + 1 := ⟨k - 1, by omega⟩
  rw [s_cells_of_code, q_near_cells k (by omega), q_picture_of k (by omega), q_code_numbers k (by omega)]
  rfl
theorem q_turned_code (k : Nat) (h : 2 ≤ k) : callF CFG F0 k "turned_code" = m_turned_code := by
  obtain ⟨k, rfl⟩ : ∃ j, k = j + 1 := ⟨k - 1, by omega⟩
  rw [s_turned_code, q_code_with k (by omega), q_code_numbers k (by omega)]
  rfl
theorem q_number_lots (k : Nat) (h : 3 ≤ k) : callF CFG F0 k "number_lots" = m_number_lots := by
  obtain ⟨k, rfl⟩ : ∃ j, k = j + 1 := ⟨k - 1, by omega⟩
  rw [s_number_lots, q_picture_of k (by omega), q_lots_in k (by omega)]
  rfl
theorem q_code_pieces (k : Nat) (h : 4 ≤ k) : callF CFG F0 k "code_pieces" = m_code_pieces := by
  obtain ⟨k, rfl⟩ : ∃ j, k = j + 1 := ⟨k - 1, by omega⟩
  rw [s_code_pieces, q_number_lots k (by omega), q_code_numbers k (by omega)]
  rfl
theorem q_code_rooms (k : Nat) (h : 4 ≤ k) : callF CFG F0 k "code_rooms" = m_code_rooms := by
  obtain ⟨k, rfl⟩ : ∃ j, k = j + 1 := ⟨k - 1, by omega⟩
  rw [s_code_rooms, q_number_lots k (by omega), q_code_numbers k (by omega)]
  rfl
theorem q_is_simple_code (k : Nat) (h : 1 ≤ k) : callF CFG F0 k "is_simple_code" = m_is_simple_code := by
  obtain ⟨k, rfl⟩ : ∃ j, k = j + 1 := ⟨k - 1, by omega⟩
  rw [s_is_simple_code]
  rfl
theorem q_simple_codes (k : Nat) (h : 2 ≤ k) : callF CFG F0 k "simple_codes" = m_simple_codes := by
  obtain ⟨k, rfl⟩ : ∃ j, k = j + 1 := ⟨k - 1, by omega⟩
  rw [s_simple_codes, q_is_simple_code k (by omega)]
  rfl
theorem q_is_simple_in (k : Nat) (h : 2 ≤ k) : callF CFG F0 k "is_simple_in" = m_is_simple_in := by
  obtain ⟨k, rfl⟩ : ∃ j, k = j + 1 := ⟨k - 1, by omega⟩
  rw [s_is_simple_in, q_is_simple_code k (by omega), q_code_in k (by omega)]
  rfl
theorem q_is_simple (k : Nat) (h : 3 ≤ k) : callF CFG F0 k "is_simple" = m_is_simple := by
  obtain ⟨k, rfl⟩ : ∃ j, k = j + 1 := ⟨k - 1, by omega⟩
  rw [s_is_simple, q_cell_table k (by omega), q_is_simple_in k (by omega)]
  rfl
theorem q_simple_cells (k : Nat) (h : 3 ≤ k) : callF CFG F0 k "simple_cells" = m_simple_cells := by
  obtain ⟨k, rfl⟩ : ∃ j, k = j + 1 := ⟨k - 1, by omega⟩
  rw [s_simple_cells, q_cell_table k (by omega), q_is_simple_in k (by omega)]
  rfl
theorem q__law_open_cells (k : Nat) (h : 1 ≤ k) : callF CFG F0 k "_law_open_cells" = m__law_open_cells := by
  obtain ⟨k, rfl⟩ : ∃ j, k = j + 1 := ⟨k - 1, by omega⟩
  rw [s__law_open_cells]
  rfl
theorem q__law_pick (k : Nat) (h : 1 ≤ k) : callF CFG F0 k "_law_pick" = m__law_pick := by
  obtain ⟨k, rfl⟩ : ∃ j, k = j + 1 := ⟨k - 1, by omega⟩
  rw [s__law_pick]
  rfl
theorem q__law_any_order (k : Nat) (h : 2 ≤ k) : callF CFG F0 k "_law_any_order" = m__law_any_order := by
  obtain ⟨k, rfl⟩ : ∃ j, k = j + 1 := ⟨k - 1, by omega⟩
  rw [s__law_any_order, q__law_pick k (by omega)]
  rfl
theorem q__law_sides (k : Nat) (h : 1 ≤ k) : callF CFG F0 k "_law_sides" = m__law_sides := by
  obtain ⟨k, rfl⟩ : ∃ j, k = j + 1 := ⟨k - 1, by omega⟩
  rw [s__law_sides]
  rfl
theorem q__law_near (k : Nat) (h : 1 ≤ k) : callF CFG F0 k "_law_near" = m__law_near := by
  obtain ⟨k, rfl⟩ : ∃ j, k = j + 1 := ⟨k - 1, by omega⟩
  rw [s__law_near]
  rfl
theorem q__law_parts_by (k : Nat) (h : 2 ≤ k) : callF CFG F0 k "_law_parts_by" = m__law_parts_by := by
  obtain ⟨k, rfl⟩ : ∃ j, k = j + 1 := ⟨k - 1, by omega⟩
  rw [s__law_parts_by, q__law_near k (by omega), q__law_sides k (by omega)]
  rfl
theorem q__law_frame (k : Nat) (h : 1 ≤ k) : callF CFG F0 k "_law_frame" = m__law_frame := by
  obtain ⟨k, rfl⟩ : ∃ j, k = j + 1 := ⟨k - 1, by omega⟩
  rw [s__law_frame]
  rfl
theorem q__law_code (k : Nat) (h : 2 ≤ k) : callF CFG F0 k "_law_code" = m__law_code := by
  obtain ⟨k, rfl⟩ : ∃ j, k = j + 1 := ⟨k - 1, by omega⟩
  rw [s__law_code, q__law_near k (by omega)]
  rfl
theorem q__law_round (k : Nat) (h : 2 ≤ k) : callF CFG F0 k "_law_round" = m__law_round := by
  obtain ⟨k, rfl⟩ : ∃ j, k = j + 1 := ⟨k - 1, by omega⟩
  rw [s__law_round, q__law_near k (by omega)]
  rfl
theorem q__law_is_simple (k : Nat) (h : 3 ≤ k) : callF CFG F0 k "_law_is_simple" = m__law_is_simple := by
  obtain ⟨k, rfl⟩ : ∃ j, k = j + 1 := ⟨k - 1, by omega⟩
  rw [s__law_is_simple, q__law_round k (by omega), q__law_near k (by omega), q__law_parts_by k (by omega), q__law_sides k (by omega)]
  rfl
theorem q__law_draw_picture (k : Nat) (h : 2 ≤ k) : callF CFG F0 k "_law_draw_picture" = m__law_draw_picture := by
  obtain ⟨k, rfl⟩ : ∃ j, k = j + 1 := ⟨k - 1, by omega⟩
  rw [s__law_draw_picture, q__law_pick k (by omega)]
  rfl
theorem q__law_runs_of (k : Nat) (h : 3 ≤ k) : callF CFG F0 k "_law_runs_of" = m__law_runs_of := by
  obtain ⟨k, rfl⟩ : ∃ j, k = j + 1 := ⟨k - 1, by omega⟩
  rw [s__law_runs_of, q__law_near k (by omega), q__law_parts_by k (by omega)]
  rfl
theorem q__law_numbers (k : Nat) (h : 3 ≤ k) : callF CFG F0 k "_law_numbers" = m__law_numbers := by
  obtain ⟨k, rfl⟩ : ∃ j, k = j + 1 := ⟨k - 1, by omega⟩
  rw [s__law_numbers, q__law_near k (by omega), q__law_round k (by omega)]
  rfl
theorem q__law_simple_in (k : Nat) (h : 4 ≤ k) : callF CFG F0 k "_law_simple_in" = m__law_simple_in := by
  obtain ⟨k, rfl⟩ : ∃ j, k = j + 1 := ⟨k - 1, by omega⟩
  rw [s__law_simple_in, q__law_is_simple k (by omega), q__law_code k (by omega)]
  rfl
theorem q__law_draw_apart (k : Nat) (h : 3 ≤ k) : callF CFG F0 k "_law_draw_apart" = m__law_draw_apart := by
  obtain ⟨k, rfl⟩ : ∃ j, k = j + 1 := ⟨k - 1, by omega⟩
  rw [s__law_draw_apart, q__law_pick k (by omega), q__law_draw_picture k (by omega)]
  rfl
theorem q__law_turned_cell (k : Nat) (h : 1 ≤ k) : callF CFG F0 k "_law_turned_cell" = m__law_turned_cell := by
  obtain ⟨k, rfl⟩ : ∃ j, k = j + 1 := ⟨k - 1, by omega⟩
  rw [s__law_turned_cell]
  rfl
theorem q__law_code_right (k : Nat) (h : 5 ≤ k) : callF CFG F0 k "_law_code_right" = m__law_code_right := by
  obtain ⟨k, rfl⟩ : ∃ j, k = j + 1 := ⟨k - 1, by omega⟩
  rw [s__law_code_right, q__law_numbers k (by omega), q_code_numbers k (by omega), q_code_pieces k (by omega), q__law_runs_of k (by omega), q_code_rooms k (by omega), q_is_simple_code k (by omega), q__law_is_simple k (by omega), q_cells_of_code k (by omega), q__law_round k (by omega)]
  rfl
theorem q_law (k : Nat) (h : 6 ≤ k) : callF CFG F0 k "law" = m_law := by
  obtain ⟨k, rfl⟩ : ∃ j, k = j + 1 := ⟨k - 1, by omega⟩
  rw [s_law, q__law_open_cells k (by omega), q__law_any_order k (by omega), q__law_code_right k (by omega), q_simple_codes k (by omega), q__law_is_simple k (by omega), q__law_pick k (by omega), q__law_turned_cell k (by omega), q__law_round k (by omega), q_turned_code k (by omega), q__law_code k (by omega), q__law_draw_apart k (by omega), q__law_frame k (by omega), q_posed k (by omega), q_code_at k (by omega), q_is_simple k (by omega), q__law_simple_in k (by omega), q_simple_cells k (by omega)]
  rfl

end RF

end

/-! ## F05a -/
section
set_option maxRecDepth 1000000
namespace RF
open PySem L2
theorem cfg_len : cfg05.fns.length = 40 := by decide +kernel
def g_picture_of : Fn := cfg05.fns.getD 0 ⟨"", [], [], .Pass ⟨0, 0, 0, 0⟩⟩
def g_cell_table : Fn := cfg05.fns.getD 1 ⟨"", [], [], .Pass ⟨0, 0, 0, 0⟩⟩
def g_near_cells : Fn := cfg05.fns.getD 2 ⟨"", [], [], .Pass ⟨0, 0, 0, 0⟩⟩
def g_quarter_turned : Fn := cfg05.fns.getD 3 ⟨"", [], [], .Pass ⟨0, 0, 0, 0⟩⟩
def g_mirrored : Fn := cfg05.fns.getD 4 ⟨"", [], [], .Pass ⟨0, 0, 0, 0⟩⟩
def g_posed : Fn := cfg05.fns.getD 5 ⟨"", [], [], .Pass ⟨0, 0, 0, 0⟩⟩
def g_lot_from : Fn := cfg05.fns.getD 6 ⟨"", [], [], .Pass ⟨0, 0, 0, 0⟩⟩
def g_lots_in : Fn := cfg05.fns.getD 7 ⟨"", [], [], .Pass ⟨0, 0, 0, 0⟩⟩
def g_code_in : Fn := cfg05.fns.getD 8 ⟨"", [], [], .Pass ⟨0, 0, 0, 0⟩⟩
def g_code_at : Fn := cfg05.fns.getD 9 ⟨"", [], [], .Pass ⟨0, 0, 0, 0⟩⟩
def g_code_numbers : Fn := cfg05.fns.getD 10 ⟨"", [], [], .Pass ⟨0, 0, 0, 0⟩⟩
def g_code_with : Fn := cfg05.fns.getD 11 ⟨"", [], [], .Pass ⟨0, 0, 0, 0⟩⟩
def g_cells_of_code : Fn := cfg05.fns.getD 12 ⟨"", [], [], .Pass ⟨0, 0, 0, 0⟩⟩
def g_turned_code : Fn := cfg05.fns.getD 13 ⟨"", [], [], .Pass ⟨0, 0, 0, 0⟩⟩
def g_number_lots : Fn := cfg05.fns.getD 14 ⟨"", [], [], .Pass ⟨0, 0, 0, 0⟩⟩
def g_code_pieces : Fn := cfg05.fns.getD 15 ⟨"", [], [], .Pass ⟨0, 0, 0, 0⟩⟩
def g_code_rooms : Fn := cfg05.fns.getD 16 ⟨"", [], [], .Pass ⟨0, 0, 0, 0⟩⟩
def g_is_simple_code : Fn := cfg05.fns.getD 17 ⟨"", [], [], .Pass ⟨0, 0, 0, 0⟩⟩
def g_simple_codes : Fn := cfg05.fns.getD 18 ⟨"", [], [], .Pass ⟨0, 0, 0, 0⟩⟩
def g_is_simple_in : Fn := cfg05.fns.getD 19 ⟨"", [], [], .Pass ⟨0, 0, 0, 0⟩⟩
def g_is_simple : Fn := cfg05.fns.getD 20 ⟨"", [], [], .Pass ⟨0, 0, 0, 0⟩⟩
def g_simple_cells : Fn := cfg05.fns.getD 21 ⟨"", [], [], .Pass ⟨0, 0, 0, 0⟩⟩
def g__law_open_cells : Fn := cfg05.fns.getD 22 ⟨"", [], [], .Pass ⟨0, 0, 0, 0⟩⟩
def g__law_pick : Fn := cfg05.fns.getD 23 ⟨"", [], [], .Pass ⟨0, 0, 0, 0⟩⟩
def g__law_any_order : Fn := cfg05.fns.getD 24 ⟨"", [], [], .Pass ⟨0, 0, 0, 0⟩⟩
def g__law_sides : Fn := cfg05.fns.getD 25 ⟨"", [], [], .Pass ⟨0, 0, 0, 0⟩⟩
def g__law_near : Fn := cfg05.fns.getD 26 ⟨"", [], [], .Pass ⟨0, 0, 0, 0⟩⟩
def g__law_parts_by : Fn := cfg05.fns.getD 27 ⟨"", [], [], .Pass ⟨0, 0, 0, 0⟩⟩
def g__law_frame : Fn := cfg05.fns.getD 28 ⟨"", [], [], .Pass ⟨0, 0, 0, 0⟩⟩
def g__law_code : Fn := cfg05.fns.getD 29 ⟨"", [], [], .Pass ⟨0, 0, 0, 0⟩⟩
def g__law_round : Fn := cfg05.fns.getD 30 ⟨"", [], [], .Pass ⟨0, 0, 0, 0⟩⟩
def g__law_is_simple : Fn := cfg05.fns.getD 31 ⟨"", [], [], .Pass ⟨0, 0, 0, 0⟩⟩
def g__law_draw_picture : Fn := cfg05.fns.getD 32 ⟨"", [], [], .Pass ⟨0, 0, 0, 0⟩⟩
def g__law_runs_of : Fn := cfg05.fns.getD 33 ⟨"", [], [], .Pass ⟨0, 0, 0, 0⟩⟩
def g__law_numbers : Fn := cfg05.fns.getD 34 ⟨"", [], [], .Pass ⟨0, 0, 0, 0⟩⟩
def g__law_simple_in : Fn := cfg05.fns.getD 35 ⟨"", [], [], .Pass ⟨0, 0, 0, 0⟩⟩
def g__law_draw_apart : Fn := cfg05.fns.getD 36 ⟨"", [], [], .Pass ⟨0, 0, 0, 0⟩⟩
def g__law_turned_cell : Fn := cfg05.fns.getD 37 ⟨"", [], [], .Pass ⟨0, 0, 0, 0⟩⟩
def g__law_code_right : Fn := cfg05.fns.getD 38 ⟨"", [], [], .Pass ⟨0, 0, 0, 0⟩⟩
def g_law : Fn := cfg05.fns.getD 39 ⟨"", [], [], .Pass ⟨0, 0, 0, 0⟩⟩
theorem all05 {P : Fn → Prop} (h0 : P g_picture_of) (h1 : P g_cell_table) (h2 : P g_near_cells) (h3 : P g_quarter_turned) (h4 : P g_mirrored) (h5 : P g_posed) (h6 : P g_lot_from) (h7 : P g_lots_in) (h8 : P g_code_in) (h9 : P g_code_at) (h10 : P g_code_numbers) (h11 : P g_code_with) (h12 : P g_cells_of_code) (h13 : P g_turned_code) (h14 : P g_number_lots) (h15 : P g_code_pieces) (h16 : P g_code_rooms) (h17 : P g_is_simple_code) (h18 : P g_simple_codes) (h19 : P g_is_simple_in) (h20 : P g_is_simple) (h21 : P g_simple_cells) (h22 : P g__law_open_cells) (h23 : P g__law_pick) (h24 : P g__law_any_order) (h25 : P g__law_sides) (h26 : P g__law_near) (h27 : P g__law_parts_by) (h28 : P g__law_frame) (h29 : P g__law_code) (h30 : P g__law_round) (h31 : P g__law_is_simple) (h32 : P g__law_draw_picture) (h33 : P g__law_runs_of) (h34 : P g__law_numbers) (h35 : P g__law_simple_in) (h36 : P g__law_draw_apart) (h37 : P g__law_turned_cell) (h38 : P g__law_code_right) (h39 : P g_law) : ∀ fn ∈ cfg05.fns, P fn := by
  intro fn h
  obtain ⟨i, hi, rfl⟩ := List.mem_iff_getElem.mp h
  rw [cfg_len] at hi
  have key : ∀ j, j < 40 → P (cfg05.fns.getD j ⟨"", [], [], .Pass ⟨0, 0, 0, 0⟩⟩) := fun j hj => by
    match j, hj with
    | 0, _ => exact h0
    | 1, _ => exact h1
    | 2, _ => exact h2
    | 3, _ => exact h3
    | 4, _ => exact h4
    | 5, _ => exact h5
    | 6, _ => exact h6
    | 7, _ => exact h7
    | 8, _ => exact h8
    | 9, _ => exact h9
    | 10, _ => exact h10
    | 11, _ => exact h11
    | 12, _ => exact h12
    | 13, _ => exact h13
    | 14, _ => exact h14
    | 15, _ => exact h15
    | 16, _ => exact h16
    | 17, _ => exact h17
    | 18, _ => exact h18
    | 19, _ => exact h19
    | 20, _ => exact h20
    | 21, _ => exact h21
    | 22, _ => exact h22
    | 23, _ => exact h23
    | 24, _ => exact h24
    | 25, _ => exact h25
    | 26, _ => exact h26
    | 27, _ => exact h27
    | 28, _ => exact h28
    | 29, _ => exact h29
    | 30, _ => exact h30
    | 31, _ => exact h31
    | 32, _ => exact h32
    | 33, _ => exact h33
    | 34, _ => exact h34
    | 35, _ => exact h35
    | 36, _ => exact h36
    | 37, _ => exact h37
    | 38, _ => exact h38
    | 39, _ => exact h39
    | k + 40, h => exact absurd h (by omega)
  have := key i hi
  rw [List.getD_eq_getElem?_getD, List.getElem?_eq_getElem (by rw [cfg_len]; exact hi)] at this
  exact this
theorem tx_picture_of : FnTxt g_picture_of := ⟨by decide +kernel, fun kV doc pm an cdv ct us hl => match us, hl with | [_], _ => rfl⟩
theorem tx_cell_table : FnTxt g_cell_table := ⟨by decide +kernel, fun kV doc pm an cdv ct us hl => match us, hl with | [_], _ => rfl⟩
theorem tx_near_cells : FnTxt g_near_cells := ⟨by decide +kernel, fun kV doc pm an cdv ct us hl => match us, hl with | [_], _ => rfl⟩
theorem tx_quarter_turned : FnTxt g_quarter_turned := ⟨by decide +kernel, fun kV doc pm an cdv ct us hl => match us, hl with | [_, _], _ => rfl⟩
theorem tx_mirrored : FnTxt g_mirrored := ⟨by decide +kernel, fun kV doc pm an cdv ct us hl => match us, hl with | [_], _ => rfl⟩
theorem tx_posed : FnTxt g_posed := ⟨by decide +kernel, fun kV doc pm an cdv ct us hl => match us, hl with | [_, _], _ => rfl⟩
theorem tx_lot_from : FnTxt g_lot_from := ⟨by decide +kernel, fun kV doc pm an cdv ct us hl => match us, hl with | [_, _, _], _ => rfl⟩
theorem tx_lots_in : FnTxt g_lots_in := ⟨by decide +kernel, fun kV doc pm an cdv ct us hl => match us, hl with | [_, _], _ => rfl⟩
theorem tx_code_in : FnTxt g_code_in := ⟨by decide +kernel, fun kV doc pm an cdv ct us hl => match us, hl with | [_, _], _ => rfl⟩
theorem tx_code_at : FnTxt g_code_at := ⟨by decide +kernel, fun kV doc pm an cdv ct us hl => match us, hl with | [_, _], _ => rfl⟩
theorem tx_code_numbers : FnTxt g_code_numbers := ⟨by decide +kernel, fun kV doc pm an cdv ct us hl => match us, hl with | [_], _ => rfl⟩
theorem tx_code_with : FnTxt g_code_with := ⟨by decide +kernel, fun kV doc pm an cdv ct us hl => match us, hl with | [_], _ => rfl⟩
theorem tx_cells_of_code : FnTxt g_cells_of_code := ⟨by decide +kernel, fun kV doc pm an cdv ct us hl => match us, hl with | [_, _], _ => rfl⟩
theorem tx_turned_code : FnTxt g_turned_code := ⟨by decide +kernel, fun kV doc pm an cdv ct us hl => match us, hl with | [_, _], _ => rfl⟩
theorem tx_number_lots : FnTxt g_number_lots := ⟨by decide +kernel, fun kV doc pm an cdv ct us hl => match us, hl with | [_, _], _ => rfl⟩
theorem tx_code_pieces : FnTxt g_code_pieces := ⟨by decide +kernel, fun kV doc pm an cdv ct us hl => match us, hl with | [_], _ => rfl⟩
theorem tx_code_rooms : FnTxt g_code_rooms := ⟨by decide +kernel, fun kV doc pm an cdv ct us hl => match us, hl with | [_], _ => rfl⟩
theorem tx_is_simple_code : FnTxt g_is_simple_code := ⟨by decide +kernel, fun kV doc pm an cdv ct us hl => match us, hl with | [_], _ => rfl⟩
theorem tx_simple_codes : FnTxt g_simple_codes := ⟨by decide +kernel, fun kV doc pm an cdv ct us hl => match us, hl with | [], _ => rfl⟩
theorem tx_is_simple_in : FnTxt g_is_simple_in := ⟨by decide +kernel, fun kV doc pm an cdv ct us hl => match us, hl with | [_, _], _ => rfl⟩
theorem tx_is_simple : FnTxt g_is_simple := ⟨by decide +kernel, fun kV doc pm an cdv ct us hl => match us, hl with | [_, _], _ => rfl⟩
theorem tx_simple_cells : FnTxt g_simple_cells := ⟨by decide +kernel, fun kV doc pm an cdv ct us hl => match us, hl with | [_], _ => rfl⟩
theorem tx__law_open_cells : FnTxt g__law_open_cells := ⟨by decide +kernel, fun kV doc pm an cdv ct us hl => match us, hl with | [_], _ => rfl⟩
theorem tx__law_pick : FnTxt g__law_pick := ⟨by decide +kernel, fun kV doc pm an cdv ct us hl => match us, hl with | [_, _], _ => rfl⟩
theorem tx__law_any_order : FnTxt g__law_any_order := ⟨by decide +kernel, fun kV doc pm an cdv ct us hl => match us, hl with | [_, _], _ => rfl⟩
theorem tx__law_sides : FnTxt g__law_sides := ⟨by decide +kernel, fun kV doc pm an cdv ct us hl => match us, hl with | [_], _ => rfl⟩
theorem tx__law_near : FnTxt g__law_near := ⟨by decide +kernel, fun kV doc pm an cdv ct us hl => match us, hl with | [_], _ => rfl⟩
theorem tx__law_parts_by : FnTxt g__law_parts_by := ⟨by decide +kernel, fun kV doc pm an cdv ct us hl => match us, hl with | [_, _], _ => rfl⟩
theorem tx__law_frame : FnTxt g__law_frame := ⟨by decide +kernel, fun kV doc pm an cdv ct us hl => match us, hl with | [_], _ => rfl⟩
theorem tx__law_code : FnTxt g__law_code := ⟨by decide +kernel, fun kV doc pm an cdv ct us hl => match us, hl with | [_, _], _ => rfl⟩
theorem tx__law_round : FnTxt g__law_round := ⟨by decide +kernel, fun kV doc pm an cdv ct us hl => match us, hl with | [_], _ => rfl⟩
theorem tx__law_is_simple : FnTxt g__law_is_simple := ⟨by decide +kernel, fun kV doc pm an cdv ct us hl => match us, hl with | [_], _ => rfl⟩
theorem tx__law_draw_picture : FnTxt g__law_draw_picture := ⟨by decide +kernel, fun kV doc pm an cdv ct us hl => match us, hl with | [_, _], _ => rfl⟩
theorem tx__law_runs_of : FnTxt g__law_runs_of := ⟨by decide +kernel, fun kV doc pm an cdv ct us hl => match us, hl with | [_, _], _ => rfl⟩
theorem tx__law_numbers : FnTxt g__law_numbers := ⟨by decide +kernel, fun kV doc pm an cdv ct us hl => match us, hl with | [_], _ => rfl⟩
theorem tx__law_simple_in : FnTxt g__law_simple_in := ⟨by decide +kernel, fun kV doc pm an cdv ct us hl => match us, hl with | [_, _], _ => rfl⟩
theorem tx__law_draw_apart : FnTxt g__law_draw_apart := ⟨by decide +kernel, fun kV doc pm an cdv ct us hl => match us, hl with | [_, _], _ => rfl⟩
theorem tx__law_turned_cell : FnTxt g__law_turned_cell := ⟨by decide +kernel, fun kV doc pm an cdv ct us hl => match us, hl with | [_, _], _ => rfl⟩
theorem tx__law_code_right : FnTxt g__law_code_right := ⟨by decide +kernel, fun kV doc pm an cdv ct us hl => match us, hl with | [_], _ => rfl⟩
theorem tx_law : FnTxt g_law := ⟨by decide +kernel, fun kV doc pm an cdv ct us hl => match us, hl with | [_], _ => rfl⟩
theorem fn_pre {K : PySem.W.Frag} {fn : Fn} {f c P : Addr} {oc : Value} {od : Option Addr} {kV doc pm : Value} {an : Option Addr} {ct : Value} {osl : Array (Option Value)} {e : Value} {dd : Option Addr} {vs : Array Value} {sl : Array (Option Value)}
    (h1 : PySem.W.nsIn K mainGlobals fn.name = some (some (.ref f))) (h2 : K.lookup f = some ⟨oc, od, .func (PySem.W.fnOf fn.name fn.name (C8.fnArgs fn.st) (C8.fnBody fn.st) (C8.fnScope fn.st) .none kV doc pm an (.ref c) ct), osl⟩)
    (h3 : PySem.W.codeIn K (.ref c) fn.name = true) (h4 : PySem.W.keepIn K (.ref f) = true) (h5 : K.lookup c = some ⟨e, dd, .fields vs, sl⟩) (h6 : vs[11]? = some (.ref P)) (h7 : K.lookup P = none) : FnPre K fn :=
  ⟨f, c, P, oc, od, kV, doc, pm, an, ct, osl, e, dd, vs, sl, h1, h2, h3, h4, h5, h6, h7⟩
theorem con_pre {K : PySem.W.Frag} {u1 u2 : Value} (h1 : PySem.W.nsIn K mainGlobals "NEAR_STEPS" = some (some u1)) (h2 : repK K 8 u1 c_NEAR_STEPS = true) (h3 : PySem.W.nsIn K mainGlobals "SIDE_STEPS" = some (some u2)) (h4 : repK K 8 u2 c_SIDE_STEPS = true) : ∀ p ∈ cfg05.consts, ∃ u, PySem.W.nsIn K mainGlobals p.1 = some (some u) ∧ repK K 8 u p.2 = true := by
  intro p hp
  have e : cfg05.consts = ([(("NEAR_STEPS" : Str), c_NEAR_STEPS), (("SIDE_STEPS" : Str), c_SIDE_STEPS)] : List (Str × D)) := rfl
  rw [e] at hp
  rcases List.mem_cons.mp hp with rfl | hp
  · exact ⟨u1, h1, h2⟩
  · rcases List.mem_cons.mp hp with rfl | hp
    · exact ⟨u2, h3, h4⟩
    · cases hp
theorem law_call (ns : List Int) (hl : ns.length ≤ 63) : ∃ S', callF cfg05 F0 6 "law" [.loc 0] [.fro (ns.map D.int)] = some (.bl true, S') := by
  have := pure05 ns hl
  rw [q_law 6 (by omega)]
  exact this
end RF

end

/-! ## F05b -/
section
open PySem PySem.W PyProof.Rows in
set_option maxRecDepth 1000000 in
set_option maxHeartbeats 0 in
theorem PySem.Challenge.cw_boneways_k05_codes_and_simple_cells_holds : PySem.Challenge.rw_boneways_k05_codes_and_simple_cells.Holds := by
  w_on; o_law; k_head; (case hw => w_witness2)
  k_fill
  refine RF.walk_rf (l := PySem.Challenge.rw_boneways_k05_codes_and_simple_cells) (k := 6) (x := "_law_script") RF.cfg05 RF.F0 RF.g_law rfl (by decide) rfl ⟨rfl, by decide, by decide⟩ (fun w h Y => PySem.W.kIn_of Y) (by kernel_rfl) rfl rfl (by decide +kernel) ?T ?Q (fun ns hl _ => RF.law_call ns hl)
  case T =>
    exact RF.all05 RF.tx_picture_of RF.tx_cell_table RF.tx_near_cells RF.tx_quarter_turned RF.tx_mirrored RF.tx_posed RF.tx_lot_from RF.tx_lots_in RF.tx_code_in RF.tx_code_at RF.tx_code_numbers RF.tx_code_with RF.tx_cells_of_code RF.tx_turned_code RF.tx_number_lots RF.tx_code_pieces RF.tx_code_rooms RF.tx_is_simple_code RF.tx_simple_codes RF.tx_is_simple_in RF.tx_is_simple RF.tx_simple_cells RF.tx__law_open_cells RF.tx__law_pick RF.tx__law_any_order RF.tx__law_sides RF.tx__law_near RF.tx__law_parts_by RF.tx__law_frame RF.tx__law_code RF.tx__law_round RF.tx__law_is_simple RF.tx__law_draw_picture RF.tx__law_runs_of RF.tx__law_numbers RF.tx__law_simple_in RF.tx__law_draw_apart RF.tx__law_turned_cell RF.tx__law_code_right RF.tx_law
  case Q =>
    intro w
    refine' ⟨RF.all05 ?a0 ?a1 ?a2 ?a3 ?a4 ?a5 ?a6 ?a7 ?a8 ?a9 ?a10 ?a11 ?a12 ?a13 ?a14 ?a15 ?a16 ?a17 ?a18 ?a19 ?a20 ?a21 ?a22 ?a23 ?a24 ?a25 ?a26 ?a27 ?a28 ?a29 ?a30 ?a31 ?a32 ?a33 ?a34 ?a35 ?a36 ?a37 ?a38 ?a39, RF.con_pre ?c1 ?c2 ?c3 ?c4, ?b⟩
    (case a0 => (refine' RF.fn_pre ?f1 ?f2 ?f3 ?f4 ?f5 ?f6 ?f7; (case f1 => k_is); (case f2 => k_is); (case f3 => k_is); (case f4 => k_is); (case f5 => k_is); (case f6 => rfl); (case f7 => kernel_rfl)))
    (case a1 => (refine' RF.fn_pre ?f1 ?f2 ?f3 ?f4 ?f5 ?f6 ?f7; (case f1 => k_is); (case f2 => k_is); (case f3 => k_is); (case f4 => k_is); (case f5 => k_is); (case f6 => rfl); (case f7 => kernel_rfl)))
    (case a2 => (refine' RF.fn_pre ?f1 ?f2 ?f3 ?f4 ?f5 ?f6 ?f7; (case f1 => k_is); (case f2 => k_is); (case f3 => k_is); (case f4 => k_is); (case f5 => k_is); (case f6 => rfl); (case f7 => kernel_rfl)))
    (case a3 => (refine' RF.fn_pre ?f1 ?f2 ?f3 ?f4 ?f5 ?f6 ?f7; (case f1 => k_is); (case f2 => k_is); (case f3 => k_is); (case f4 => k_is); (case f5 => k_is); (case f6 => rfl); (case f7 => kernel_rfl)))
    (case a4 => (refine' RF.fn_pre ?f1 ?f2 ?f3 ?f4 ?f5 ?f6 ?f7; (case f1 => k_is); (case f2 => k_is); (case f3 => k_is); (case f4 => k_is); (case f5 => k_is); (case f6 => rfl); (case f7 => kernel_rfl)))
    (case a5 => (refine' RF.fn_pre ?f1 ?f2 ?f3 ?f4 ?f5 ?f6 ?f7; (case f1 => k_is); (case f2 => k_is); (case f3 => k_is); (case f4 => k_is); (case f5 => k_is); (case f6 => rfl); (case f7 => kernel_rfl)))
    (case a6 => (refine' RF.fn_pre ?f1 ?f2 ?f3 ?f4 ?f5 ?f6 ?f7; (case f1 => k_is); (case f2 => k_is); (case f3 => k_is); (case f4 => k_is); (case f5 => k_is); (case f6 => rfl); (case f7 => kernel_rfl)))
    (case a7 => (refine' RF.fn_pre ?f1 ?f2 ?f3 ?f4 ?f5 ?f6 ?f7; (case f1 => k_is); (case f2 => k_is); (case f3 => k_is); (case f4 => k_is); (case f5 => k_is); (case f6 => rfl); (case f7 => kernel_rfl)))
    (case a8 => (refine' RF.fn_pre ?f1 ?f2 ?f3 ?f4 ?f5 ?f6 ?f7; (case f1 => k_is); (case f2 => k_is); (case f3 => k_is); (case f4 => k_is); (case f5 => k_is); (case f6 => rfl); (case f7 => kernel_rfl)))
    (case a9 => (refine' RF.fn_pre ?f1 ?f2 ?f3 ?f4 ?f5 ?f6 ?f7; (case f1 => k_is); (case f2 => k_is); (case f3 => k_is); (case f4 => k_is); (case f5 => k_is); (case f6 => rfl); (case f7 => kernel_rfl)))
    (case a10 => (refine' RF.fn_pre ?f1 ?f2 ?f3 ?f4 ?f5 ?f6 ?f7; (case f1 => k_is); (case f2 => k_is); (case f3 => k_is); (case f4 => k_is); (case f5 => k_is); (case f6 => rfl); (case f7 => kernel_rfl)))
    (case a11 => (refine' RF.fn_pre ?f1 ?f2 ?f3 ?f4 ?f5 ?f6 ?f7; (case f1 => k_is); (case f2 => k_is); (case f3 => k_is); (case f4 => k_is); (case f5 => k_is); (case f6 => rfl); (case f7 => kernel_rfl)))
    (case a12 => (refine' RF.fn_pre ?f1 ?f2 ?f3 ?f4 ?f5 ?f6 ?f7; (case f1 => k_is); (case f2 => k_is); (case f3 => k_is); (case f4 => k_is); (case f5 => k_is); (case f6 => rfl); (case f7 => kernel_rfl)))
    (case a13 => (refine' RF.fn_pre ?f1 ?f2 ?f3 ?f4 ?f5 ?f6 ?f7; (case f1 => k_is); (case f2 => k_is); (case f3 => k_is); (case f4 => k_is); (case f5 => k_is); (case f6 => rfl); (case f7 => kernel_rfl)))
    (case a14 => (refine' RF.fn_pre ?f1 ?f2 ?f3 ?f4 ?f5 ?f6 ?f7; (case f1 => k_is); (case f2 => k_is); (case f3 => k_is); (case f4 => k_is); (case f5 => k_is); (case f6 => rfl); (case f7 => kernel_rfl)))
    (case a15 => (refine' RF.fn_pre ?f1 ?f2 ?f3 ?f4 ?f5 ?f6 ?f7; (case f1 => k_is); (case f2 => k_is); (case f3 => k_is); (case f4 => k_is); (case f5 => k_is); (case f6 => rfl); (case f7 => kernel_rfl)))
    (case a16 => (refine' RF.fn_pre ?f1 ?f2 ?f3 ?f4 ?f5 ?f6 ?f7; (case f1 => k_is); (case f2 => k_is); (case f3 => k_is); (case f4 => k_is); (case f5 => k_is); (case f6 => rfl); (case f7 => kernel_rfl)))
    (case a17 => (refine' RF.fn_pre ?f1 ?f2 ?f3 ?f4 ?f5 ?f6 ?f7; (case f1 => k_is); (case f2 => k_is); (case f3 => k_is); (case f4 => k_is); (case f5 => k_is); (case f6 => rfl); (case f7 => kernel_rfl)))
    (case a18 => (refine' RF.fn_pre ?f1 ?f2 ?f3 ?f4 ?f5 ?f6 ?f7; (case f1 => k_is); (case f2 => k_is); (case f3 => k_is); (case f4 => k_is); (case f5 => k_is); (case f6 => rfl); (case f7 => kernel_rfl)))
    (case a19 => (refine' RF.fn_pre ?f1 ?f2 ?f3 ?f4 ?f5 ?f6 ?f7; (case f1 => k_is); (case f2 => k_is); (case f3 => k_is); (case f4 => k_is); (case f5 => k_is); (case f6 => rfl); (case f7 => kernel_rfl)))
    (case a20 => (refine' RF.fn_pre ?f1 ?f2 ?f3 ?f4 ?f5 ?f6 ?f7; (case f1 => k_is); (case f2 => k_is); (case f3 => k_is); (case f4 => k_is); (case f5 => k_is); (case f6 => rfl); (case f7 => kernel_rfl)))
    (case a21 => (refine' RF.fn_pre ?f1 ?f2 ?f3 ?f4 ?f5 ?f6 ?f7; (case f1 => k_is); (case f2 => k_is); (case f3 => k_is); (case f4 => k_is); (case f5 => k_is); (case f6 => rfl); (case f7 => kernel_rfl)))
    (case a22 => (refine' RF.fn_pre ?f1 ?f2 ?f3 ?f4 ?f5 ?f6 ?f7; (case f1 => k_is); (case f2 => k_is); (case f3 => k_is); (case f4 => k_is); (case f5 => k_is); (case f6 => rfl); (case f7 => kernel_rfl)))
    (case a23 => (refine' RF.fn_pre ?f1 ?f2 ?f3 ?f4 ?f5 ?f6 ?f7; (case f1 => k_is); (case f2 => k_is); (case f3 => k_is); (case f4 => k_is); (case f5 => k_is); (case f6 => rfl); (case f7 => kernel_rfl)))
    (case a24 => (refine' RF.fn_pre ?f1 ?f2 ?f3 ?f4 ?f5 ?f6 ?f7; (case f1 => k_is); (case f2 => k_is); (case f3 => k_is); (case f4 => k_is); (case f5 => k_is); (case f6 => rfl); (case f7 => kernel_rfl)))
    (case a25 => (refine' RF.fn_pre ?f1 ?f2 ?f3 ?f4 ?f5 ?f6 ?f7; (case f1 => k_is); (case f2 => k_is); (case f3 => k_is); (case f4 => k_is); (case f5 => k_is); (case f6 => rfl); (case f7 => kernel_rfl)))
    (case a26 => (refine' RF.fn_pre ?f1 ?f2 ?f3 ?f4 ?f5 ?f6 ?f7; (case f1 => k_is); (case f2 => k_is); (case f3 => k_is); (case f4 => k_is); (case f5 => k_is); (case f6 => rfl); (case f7 => kernel_rfl)))
    (case a27 => (refine' RF.fn_pre ?f1 ?f2 ?f3 ?f4 ?f5 ?f6 ?f7; (case f1 => k_is); (case f2 => k_is); (case f3 => k_is); (case f4 => k_is); (case f5 => k_is); (case f6 => rfl); (case f7 => kernel_rfl)))
    (case a28 => (refine' RF.fn_pre ?f1 ?f2 ?f3 ?f4 ?f5 ?f6 ?f7; (case f1 => k_is); (case f2 => k_is); (case f3 => k_is); (case f4 => k_is); (case f5 => k_is); (case f6 => rfl); (case f7 => kernel_rfl)))
    (case a29 => (refine' RF.fn_pre ?f1 ?f2 ?f3 ?f4 ?f5 ?f6 ?f7; (case f1 => k_is); (case f2 => k_is); (case f3 => k_is); (case f4 => k_is); (case f5 => k_is); (case f6 => rfl); (case f7 => kernel_rfl)))
    (case a30 => (refine' RF.fn_pre ?f1 ?f2 ?f3 ?f4 ?f5 ?f6 ?f7; (case f1 => k_is); (case f2 => k_is); (case f3 => k_is); (case f4 => k_is); (case f5 => k_is); (case f6 => rfl); (case f7 => kernel_rfl)))
    (case a31 => (refine' RF.fn_pre ?f1 ?f2 ?f3 ?f4 ?f5 ?f6 ?f7; (case f1 => k_is); (case f2 => k_is); (case f3 => k_is); (case f4 => k_is); (case f5 => k_is); (case f6 => rfl); (case f7 => kernel_rfl)))
    (case a32 => (refine' RF.fn_pre ?f1 ?f2 ?f3 ?f4 ?f5 ?f6 ?f7; (case f1 => k_is); (case f2 => k_is); (case f3 => k_is); (case f4 => k_is); (case f5 => k_is); (case f6 => rfl); (case f7 => kernel_rfl)))
    (case a33 => (refine' RF.fn_pre ?f1 ?f2 ?f3 ?f4 ?f5 ?f6 ?f7; (case f1 => k_is); (case f2 => k_is); (case f3 => k_is); (case f4 => k_is); (case f5 => k_is); (case f6 => rfl); (case f7 => kernel_rfl)))
    (case a34 => (refine' RF.fn_pre ?f1 ?f2 ?f3 ?f4 ?f5 ?f6 ?f7; (case f1 => k_is); (case f2 => k_is); (case f3 => k_is); (case f4 => k_is); (case f5 => k_is); (case f6 => rfl); (case f7 => kernel_rfl)))
    (case a35 => (refine' RF.fn_pre ?f1 ?f2 ?f3 ?f4 ?f5 ?f6 ?f7; (case f1 => k_is); (case f2 => k_is); (case f3 => k_is); (case f4 => k_is); (case f5 => k_is); (case f6 => rfl); (case f7 => kernel_rfl)))
    (case a36 => (refine' RF.fn_pre ?f1 ?f2 ?f3 ?f4 ?f5 ?f6 ?f7; (case f1 => k_is); (case f2 => k_is); (case f3 => k_is); (case f4 => k_is); (case f5 => k_is); (case f6 => rfl); (case f7 => kernel_rfl)))
    (case a37 => (refine' RF.fn_pre ?f1 ?f2 ?f3 ?f4 ?f5 ?f6 ?f7; (case f1 => k_is); (case f2 => k_is); (case f3 => k_is); (case f4 => k_is); (case f5 => k_is); (case f6 => rfl); (case f7 => kernel_rfl)))
    (case a38 => (refine' RF.fn_pre ?f1 ?f2 ?f3 ?f4 ?f5 ?f6 ?f7; (case f1 => k_is); (case f2 => k_is); (case f3 => k_is); (case f4 => k_is); (case f5 => k_is); (case f6 => rfl); (case f7 => kernel_rfl)))
    (case a39 => (refine' RF.fn_pre ?f1 ?f2 ?f3 ?f4 ?f5 ?f6 ?f7; (case f1 => k_is); (case f2 => k_is); (case f3 => k_is); (case f4 => k_is); (case f5 => k_is); (case f6 => rfl); (case f7 => kernel_rfl)))
    (case c1 => k_is)
    (case c2 => kernel_rfl)
    (case c3 => k_is)
    (case c4 => kernel_rfl)
    (case b => kernel_rfl)

end
