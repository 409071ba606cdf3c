import PyProof.Rows.All
import Wide.All
import OpenK.AllK
import Wide.FinOn
import HandS.ForMost
import HandS.Walk
import PyProof.ReprRoads
import HandS.TupAny
import HandS.IsInst
import HandS.SortInts
import KE.GoesMore
import HandS.Zip
import KE.GoesEnum
import HandS.Style
import HandS.TupLen
import HandS.Set
import HandS.SetFor
import HandS.Strs
import HandS.DictComp
import HandS.ForExc
import HandS.TryOnly
import PyProof.ExcBaseAll.ValueError
import KE.KDictZip
import KE.KDictKeyed
import KE.KDictDisplayH
import HandS.TupMul
import HandS.SortRule
import HandS.Defaults
import HandS.TupSets
import HandS.Star
import HandS.Conv
import HandS.Deep
import PySem.Challenge.RW_blankcells_k09_relations_told
set_option Elab.async false
set_option linter.all false
set_option maxRecDepth 100000
set_option maxHeartbeats 4000000
/-! Data over the hand layer: what an expression gives, told by data alone; lists that one name owns may change. -/
namespace Dw
open PySem PySem.Spec PyProof.Rows L2

/-- a slot: nothing known, data, a list that this slot alone holds -/
inductive Sl where
  | un
  | d (x : PyData)
  | o (xs : List PyData)
  | m (kvs : List (List Int × PyData))
  | k (ks : List Int)
/-- what comes out: data, a new list that nobody else holds, the list that a slot owns (not to be kept) -/
inductive Rv where
  | d (x : PyData)
  | l (xs : List PyData)
  | b (i : Nat) (xs : List PyData)
def Rv.as : Rv → PyData
  | .d x => x
  | .l xs => .list xs
  | .b _ xs => .list xs
abbrev Dl := List Sl
abbrev WE := Dl → (Rv → Dl → Prop) → Prop

/-- a tuple of ints as a key -/
def ky (ks : List Int) : List Key := ks.map Sum.inl
def entK (p : Int × Int) : Key × V := (Sum.inl p.1, V.int p.2)
def entT (p : List Int × Int) : List Key × V := (ky p.1, V.int p.2)
def entKD (p : Int × Int) : PyData × PyData := (.int p.1, .int p.2)
def entTD (p : List Int × Int) : PyData × PyData := (.tuple (p.1.map PyData.int), .int p.2)
/-- dicts as data: a mark ahead tells the kind of its keys -/
abbrev dkD (kvs : List (Int × Int)) : PyData := .dict ((.none, .int 0) :: kvs.map entKD)
abbrev dtD (kvs : List (List Int × Int)) : PyData := .dict ((.none, .int 1) :: kvs.map entTD)
/-- the empty tuple of the written part (a default) -/
abbrev e0D : PyData := .dict [(.none, .int 2)]
/-! data on the heap: as the hand layer's, tuples made by the text, and dicts of ints that nobody changes any more -/
mutual
inductive Dp (K : PySem.W.Frag) (H : Hp) : V → PyData → Prop
  | non : Dp K H .non .none
  | bl (b : Bool) : Dp K H (.bl b) (.bool b)
  | int (i : Int) : Dp K H (.int i) (.int i)
  | str (x : Str) : Dp K H (.str x) (.str x)
  | lst {a : Addr} {xs : List V} {ds : List PyData} : SqL K H a xs → DpAll K H xs ds → Dp K H (.ref a) (.list ds)
  | tup {a : Addr} {xs : List V} {ds : List PyData} : H a = some (.tup xs) → DpAll K H xs ds → Dp K H (.ref a) (.tuple ds)
  | dk {a : Addr} {kvs : List (Int × Int)} : H a = some (.dK (kvs.map entK)) → Dp K H (.ref a) (dkD kvs)
  | dt {a : Addr} {kvs : List (List Int × Int)} : H a = some (.dT (kvs.map entT)) → Dp K H (.ref a) (dtD kvs)
  | e0 {a : Addr} : SqT K H a [] → Dp K H (.ref a) e0D
inductive DpAll (K : PySem.W.Frag) (H : Hp) : List V → List PyData → Prop
  | nil : DpAll K H [] []
  | cons {v : V} {vs : List V} {d : PyData} {ds : List PyData} : Dp K H v d → DpAll K H vs ds → DpAll K H (v :: vs) (d :: ds)
end

open Classical in
noncomputable def hid (H : Hp) (O : Addr → Prop) : Hp := fun a => if O a then none else H a
section
variable {H H' : Hp} {O O' : Addr → Prop} {a : Addr} {o : HO}
theorem hid_no (h : ¬ O a) : hid H O a = H a := by unfold hid; rw [if_neg h]
theorem hid_yes (h : O a) : hid H O a = none := by unfold hid; rw [if_pos h]
theorem hid_some (h : hid H O a = some o) : ¬ O a ∧ H a = some o := by
  by_cases q : O a
  · rw [hid_yes q] at h; cases h
  · rw [hid_no q] at h; exact ⟨q, h⟩
theorem hid_le : Same (hid H O) H := fun _ _ h => (hid_some h).2
theorem hid_sub (h : ∀ a, O' a → O a) : Same (hid H O) (hid H O') := fun b x e => by
  obtain ⟨n, e⟩ := hid_some e
  rw [hid_no fun z => n (h b z)]; exact e
theorem hid_upd (h : O a) : hid (upd H a o) O = hid H O := by
  funext b
  by_cases q : O b
  · rw [hid_yes q, hid_yes q]
  · rw [hid_no q, hid_no q, upd_ne]
    rintro rfl
    exact q h
theorem hid_new (h : H a = none) : Same (hid H O) (hid (upd H a o) O) := fun b x e => by
  obtain ⟨n, e⟩ := hid_some e
  rw [hid_no n, upd_ne (ne_of_none e h)]; exact e
end
section
variable {K : PySem.W.Frag} {H H' : Hp}
theorem rd_mono (e : Same H H') {a : Addr} {u : HO} (h : Rd H a u) : Rd H' a u := by
  rcases h with h | ⟨o, h⟩
  · exact .inl (e _ _ h)
  · exact .inr ⟨o, e _ _ h⟩
theorem sl_mono (e : Same H H') {a : Addr} {xs : List V} (h : SqL K H a xs) : SqL K H' a xs := h.imp (rd_mono e) id
theorem st_mono (e : Same H H') {a : Addr} {xs : List V} (h : SqT K H a xs) : SqT K H' a xs := h.imp (rd_mono e) id
mutual
theorem dp_mono (e : Same H H') : ∀ (d : PyData) (v : V), Dp K H v d → Dp K H' v d
  | .none, _, h => by cases h; exact .non
  | .bool b, _, h => by cases h; exact .bl b
  | .int i, _, h => by cases h; exact .int i
  | .str x, _, h => by cases h; exact .str x
  | .list ds, _, h => by
    cases h with
    | lst hs ha => exact .lst (sl_mono e hs) (da_mono e ds _ ha)
  | .tuple ds, _, h => by
    cases h with
    | tup hs ha => exact .tup (e _ _ hs) (da_mono e ds _ ha)
  | .dict _, _, h => by
    cases h with
    | dk h => exact .dk (e _ _ h)
    | dt h => exact .dt (e _ _ h)
    | e0 h => exact .e0 (st_mono e h)
theorem da_mono (e : Same H H') : ∀ (ds : List PyData) (vs : List V), DpAll K H vs ds → DpAll K H' vs ds
  | [], _, h => by cases h; exact .nil
  | d :: ds, _, h => by
    cases h with
    | cons h1 h2 => exact .cons (dp_mono e d _ h1) (da_mono e ds _ h2)
end
mutual
theorem dp_l2 : ∀ (d : PyData) (v : V), Dp K H v d → d.hasDict = false → L2.Dp K H v d
  | .none, _, h, _ => by cases h; exact .non
  | .bool b, _, h, _ => by cases h; exact .bl b
  | .int i, _, h, _ => by cases h; exact .int i
  | .str x, _, h, _ => by cases h; exact .str x
  | .list ds, _, h, n => by
    cases h with
    | lst hs ha => exact .lst hs (da_l2 ds _ ha (by simpa only [PyData.hasDict] using n))
  | .tuple ds, _, h, n => by
    cases h with
    | tup hs ha => exact .tup (.inl (.inl hs)) (da_l2 ds _ ha (by simpa only [PyData.hasDict] using n))
  | .dict _, _, h, n => by simp [PyData.hasDict] at n
theorem da_l2 : ∀ (ds : List PyData) (vs : List V), DpAll K H vs ds → PyData.hasDictAll ds = false → L2.DpAll K H vs ds
  | [], _, h, _ => by cases h; exact .nil
  | d :: ds, _, h, n => by
    cases h with
    | cons h1 h2 =>
      rw [PyData.hasDictAll, Bool.or_eq_false_iff] at n
      exact .cons (dp_l2 d _ h1 n.1) (da_l2 ds _ h2 n.2)
end
mutual
theorem lay_nd : ∀ (d : PyData), d.canLay0 = true → d.hasDict = false
  | .none, _ => rfl
  | .bool _, _ => rfl
  | .int _, _ => rfl
  | .str _, _ => rfl
  | .list ds, h => by rw [PyData.hasDict]; exact lay_nds ds (by simpa only [PyData.canLay0] using h)
  | .tuple ds, h => by rw [PyData.hasDict]; exact lay_nds ds (by simpa only [PyData.canLay0] using h)
  | .dict _, h => by simp [PyData.canLay0] at h
theorem lay_nds : ∀ (ds : List PyData), PyData.canLayAll0 ds = true → PyData.hasDictAll ds = false
  | [], _ => rfl
  | d :: ds, h => by
    rw [PyData.canLayAll0, Bool.and_eq_true] at h
    rw [PyData.hasDictAll, lay_nd d h.1, lay_nds ds h.2]; rfl
end
theorem Dp.shaped {v : V} {d : PyData} (h : Dp K H v d) (n : SeqAt.shaped d = true) : L2.Dp K H v d := dp_l2 d v h (lay_nd d (SeqAt.canLay_of_shaped n))
theorem Dp.up {v : V} {d : PyData} (h : Dp K H v d) (e : Same H H') : Dp K H' v d := dp_mono e d v h
theorem DpAll.up {vs : List V} {ds : List PyData} (h : DpAll K H vs ds) (e : Same H H') : DpAll K H' vs ds := da_mono e ds vs h
theorem da_len : ∀ {vs : List V} {ds : List PyData}, DpAll K H vs ds → vs.length = ds.length
  | [], _, h => by cases h; rfl
  | v :: vs, _, h => by
    cases h with
    | cons h1 h2 => simp [da_len h2]
theorem da_get : ∀ {ds : List PyData} {vs : List V} {i : Nat} {d : PyData}, DpAll K H vs ds → ds[i]? = some d → ∃ v, vs[i]? = some v ∧ Dp K H v d
  | [], _, _, _, h, e => by simp at e
  | d0 :: ds, _, 0, d, h, e => by
    cases h with
    | cons h1 h2 =>
      have q : d0 = d := Option.some.inj e
      subst q
      exact ⟨_, rfl, h1⟩
  | d0 :: ds, _, i + 1, d, h, e => by
    cases h with
    | cons h1 h2 =>
      obtain ⟨v, a, b⟩ := da_get h2 (i := i) (d := d) e
      exact ⟨v, a, b⟩
theorem da_getV : ∀ {vs : List V} {ds : List PyData} {i : Nat} {v : V}, DpAll K H vs ds → vs[i]? = some v → ∃ d, ds[i]? = some d ∧ Dp K H v d
  | [], _, _, _, h, e => by simp at e
  | v0 :: vs, _, 0, v, h, e => by
    cases h with
    | cons h1 h2 =>
      have q : v0 = v := Option.some.inj e
      subst q
      exact ⟨_, rfl, h1⟩
  | v0 :: vs, _, i + 1, v, h, e => by
    cases h with
    | cons h1 h2 =>
      obtain ⟨d, a, b⟩ := da_getV h2 (i := i) (v := v) e
      exact ⟨d, a, b⟩
theorem da_app : ∀ {vs : List V} {ds : List PyData} {us : List V} {es : List PyData}, DpAll K H vs ds → DpAll K H us es → DpAll K H (vs ++ us) (ds ++ es)
  | [], _, _, _, h, g => by cases h; exact g
  | v :: vs, _, _, _, h, g => by
    cases h with
    | cons h1 h2 => exact .cons h1 (da_app h2 g)
theorem da_set {v : V} {d : PyData} (hd : Dp K H v d) : ∀ {vs : List V} {ds : List PyData} (j : Nat), DpAll K H vs ds → DpAll K H (vs.set j v) (ds.set j d)
  | [], _, _, h => by cases h; exact .nil
  | v0 :: vs, _, 0, h => by
    cases h with
    | cons h1 h2 => exact .cons hd h2
  | v0 :: vs, _, j + 1, h => by
    cases h with
    | cons h1 h2 => exact .cons h1 (da_set hd j h2)
theorem da_take : ∀ {vs : List V} {ds : List PyData} (j : Nat), DpAll K H vs ds → DpAll K H (vs.take j) (ds.take j)
  | _, _, 0, _ => by rw [List.take_zero, List.take_zero]; exact .nil
  | [], _, j + 1, h => by cases h; exact .nil
  | v0 :: vs, _, j + 1, h => by
    cases h with
    | cons h1 h2 => exact .cons h1 (da_take j h2)
theorem da_drop : ∀ {vs : List V} {ds : List PyData} (j : Nat), DpAll K H vs ds → DpAll K H (vs.drop j) (ds.drop j)
  | _, _, 0, h => h
  | [], _, j + 1, h => by cases h; exact .nil
  | v0 :: vs, _, j + 1, h => by
    cases h with
    | cons h1 h2 => exact da_drop j h2
end

/-- data that may stand in a list which H knows but G does not -/
def Dq (K : PySem.W.Frag) (G H : Hp) (v : V) (d : PyData) : Prop := Dp K G v d ∨ ∃ p vs ds, v = .ref p ∧ d = .list ds ∧ SqL K H p vs ∧ DpAll K G vs ds
section
variable {K : PySem.W.Frag} {G H : Hp} {v : V} {d : PyData}
theorem Dq.int {i : Int} (h : Dq K G H v (.int i)) : v = .int i := by
  rcases h with h | ⟨_, _, _, _, e, _⟩
  · cases h; rfl
  · cases e
theorem Dq.bl {i : Bool} (h : Dq K G H v (.bool i)) : v = .bl i := by
  rcases h with h | ⟨_, _, _, _, e, _⟩
  · cases h; rfl
  · cases e
theorem Dq.non (h : Dq K G H v .none) : v = .non := by
  rcases h with h | ⟨_, _, _, _, e, _⟩
  · cases h; rfl
  · cases e
theorem Dq.tup {ds : List PyData} (s : Same G H) (h : Dq K G H v (.tuple ds)) : ∃ a xs, v = .ref a ∧ SqT K H a xs ∧ DpAll K G xs ds := by
  rcases h with h | ⟨_, _, _, _, e, _⟩
  · cases h with
    | tup h1 h2 => exact ⟨_, _, rfl, .inl (.inl (s _ _ h1)), h2⟩
  · cases e
theorem Dq.lst {ds : List PyData} (s : Same G H) (h : Dq K G H v (.list ds)) : ∃ a xs, v = .ref a ∧ SqL K H a xs ∧ DpAll K G xs ds := by
  rcases h with h | ⟨p, vs, ds', e, e2, h1, h2⟩
  · cases h with
    | lst h1 h2 => exact ⟨_, _, rfl, sl_mono s h1, h2⟩
  · cases e2
    exact ⟨p, vs, e, h1, h2⟩
theorem Dq.dp (s : Same G H) (h : Dq K G H v d) : Dp K H v d := by
  rcases h with h | ⟨p, vs, ds', rfl, rfl, h1, h2⟩
  · exact Dp.up h s
  · exact .lst h1 (DpAll.up h2 s)
end

/-! ### a dict that one slot owns, a tuple of ints as its key -/
def KvOk (K : PySem.W.Frag) (G : Hp) : List (List Key × V) → List (List Int × PyData) → Prop
  | [], [] => True
  | p :: us, q :: kvs => p.1 = ky q.1 ∧ Dp K G p.2 q.2 ∧ KvOk K G us kvs
  | _, _ => False
structure Mk (K : PySem.W.Frag) (O : Addr → Prop) (δ : Dl) (σ : L2.St) (H : Hp) : Prop where
  m : ∀ (i : Nat) kvs, δ[i]? = some (Sl.m kvs) → ∃ a us, σ[i]? = some (some (V.ref a)) ∧ O a ∧ H a = some (.dT us) ∧ KvOk K (hid H O) us kvs
  i : ∀ (i j : Nat) ks ls a, δ[i]? = some (Sl.m ks) → δ[j]? = some (Sl.m ls) → σ[i]? = some (some (V.ref a)) → σ[j]? = some (some (V.ref a)) → i = j
  k : ∀ (i : Nat) ks, δ[i]? = some (Sl.k ks) → ∃ b, σ[i]? = some (some (V.ref b)) ∧ hid H O b = some (.tup ((ky ks).map kV))
def noMk : Sl → Bool
  | .m _ => false
  | .k _ => false
  | _ => true
section
variable {K : PySem.W.Frag} {O O' : Addr → Prop} {δ δ' : Dl} {σ σ' : L2.St} {H H' : Hp}
theorem KvOk.up {G G' : Hp} (s : Same G G') : ∀ {us : List (List Key × V)} {kvs : List (List Int × PyData)}, KvOk K G us kvs → KvOk K G' us kvs
  | [], [], _ => trivial
  | _ :: _, _ :: _, ⟨h1, h2, h3⟩ => ⟨h1, Dp.up h2 s, KvOk.up s h3⟩
  | [], _ :: _, h => h.elim
  | _ :: _, [], h => h.elim
theorem Mk.mv (h : Mk K O δ σ H) (sub : ∀ a, O a → O' a) (s : Same (hid H O) (hid H' O')) (f : ∀ a us, O a → H a = some (.dT us) → H' a = H a) : Mk K O' δ σ H' := by
  refine ⟨fun i kvs e => ?_, h.i, fun i ks e => ?_⟩
  · obtain ⟨a, us, e1, z, e2, d⟩ := h.m i kvs e
    exact ⟨a, us, e1, sub a z, (f a us z e2).trans e2, KvOk.up s d⟩
  · obtain ⟨b, e1, e2⟩ := h.k i ks e
    exact ⟨b, e1, s _ _ e2⟩
/-- other slots: those with a dict or a key stand -/
theorem Mk.at (h : Mk K O δ σ H) (g : ∀ (i : Nat) (s : Sl), noMk s = false → δ'[i]? = some s → δ[i]? = some s ∧ σ'[i]? = σ[i]?) : Mk K O δ' σ' H := by
  refine ⟨fun i kvs e => ?_, fun i j ks ls a e1 e2 e3 e4 => ?_, fun i ks e => ?_⟩
  · obtain ⟨e1, e2⟩ := g i _ rfl e
    rw [e2]; exact h.m i kvs e1
  · obtain ⟨q1, q2⟩ := g i _ rfl e1
    obtain ⟨q3, q4⟩ := g j _ rfl e2
    rw [q2] at e3
    rw [q4] at e4
    exact h.i i j ks ls a q1 q3 e3 e4
  · obtain ⟨e1, e2⟩ := g i _ rfl e
    rw [e2]; exact h.k i ks e1
theorem Mk.none (g : ∀ (i : Nat) (s : Sl), δ[i]? = some s → noMk s = true) : Mk K O δ σ H :=
  ⟨fun i kvs e => (nomatch (g i _ e)), fun i j ks ls a e => (nomatch (g i _ e)), fun i ks e => (nomatch (g i _ e))⟩
theorem Mk.put (h : Mk K O δ σ H) {j : Nat} {s : Sl} {v : Option V} (n : noMk s = true) : Mk K O (δ.set j s) (σ.set j v) H := h.at fun i t nt e => by
  by_cases q : j = i
  · subst q
    rw [List.getElem?_set] at e
    rw [if_pos rfl] at e
    split at e
    · cases e; rw [n] at nt; cases nt
    · cases e
  · rw [List.getElem?_set_ne q] at e ⊢
    exact ⟨e, rfl⟩
theorem Mk.putd (h : Mk K O δ σ H) {j : Nat} {s : Sl} (n : noMk s = true) : Mk K O (δ.set j s) σ H := h.at fun i t nt e => by
  by_cases q : j = i
  · subst q
    rw [List.getElem?_set] at e
    rw [if_pos rfl] at e
    split at e
    · cases e; rw [n] at nt; cases nt
    · cases e
  · rw [List.getElem?_set_ne q] at e
    exact ⟨e, rfl⟩
end

/-! ### what the slots hold -/
structure Rep (K : PySem.W.Frag) (O : Addr → Prop) (δ : Dl) (σ : L2.St) (H : Hp) : Prop where
  len : δ.length = σ.length
  dat : ∀ (i : Nat) (x : PyData), δ[i]? = some (Sl.d x) → ∃ v, σ[i]? = some (some v) ∧ Dp K (hid H O) v x
  lst : ∀ (i : Nat) (xs : List PyData), δ[i]? = some (Sl.o xs) → ∃ a vs, σ[i]? = some (some (V.ref a)) ∧ O a ∧ H a = some (.lst vs) ∧ DpAll K (hid H O) vs xs
  inj : ∀ (i j : Nat) (xs ys : List PyData) (a : Addr), δ[i]? = some (Sl.o xs) → δ[j]? = some (Sl.o ys) → σ[i]? = some (some (V.ref a)) → σ[j]? = some (some (V.ref a)) → i = j
  occ : ∀ a, O a → ∃ o, H a = some o
  ex : Mk K O δ σ H
def Own (δ : Dl) (σ : L2.St) (a : Addr) : Prop := ∃ (i : Nat) (xs : List PyData), δ[i]? = some (Sl.o xs) ∧ σ[i]? = some (some (V.ref a))
/-- an expression's way from H to H' -/
structure Stp (O : Addr → Prop) (δ δ' : Dl) (σ : L2.St) (H H' : Hp) : Prop where
  same : Same (hid H O) (hid H' O)
  frame : ∀ a, O a → ¬ Own δ σ a → H' a = H a
  own : ∀ (i : Nat), (∃ xs, δ'[i]? = some (Sl.o xs)) ↔ (∃ xs, δ[i]? = some (Sl.o xs))
  dat : ∀ (i : Nat) (x : PyData), δ'[i]? = some (Sl.d x) ↔ δ[i]? = some (Sl.d x)
  dct : ∀ (i : Nat) kvs, δ'[i]? = some (Sl.m kvs) → δ[i]? = some (Sl.m kvs)
/-- a list that was read off a slot is still what it was -/
def still (r : Rv) (δ : Dl) (p : Prop) : Prop := match r with
  | .b i xs => δ[i]? = some (Sl.o xs) ∧ p
  | _ => p
def RvOk (K : PySem.W.Frag) (O : Addr → Prop) (σ : L2.St) (δ' : Dl) (H H' : Hp) (v : V) : Rv → Prop
  | .b i xs => δ'[i]? = some (Sl.o xs) ∧ σ[i]? = some (some v)
  | .d x => Dp K (hid H' O) v x
  | .l xs => ∃ p vs, v = .ref p ∧ H p = none ∧ H' p = some (.lst vs) ∧ DpAll K (hid H' fun a => O a ∨ a = p) vs xs ∧ Rep K (fun a => O a ∨ a = p) δ' σ H'
section
variable {K : PySem.W.Frag} {O : Addr → Prop} {δ δ1 δ2 : Dl} {σ : L2.St} {H H1 H2 : Hp} {v : V} {r : Rv}
theorem Stp.refl : Stp O δ δ σ H H := ⟨Same.refl _, fun _ _ _ => rfl, fun _ => Iff.rfl, fun _ _ => Iff.rfl, fun _ _ z => z⟩
theorem Stp.ownI (s : Stp O δ δ1 σ H H1) {a : Addr} (h : Own δ1 σ a) : Own δ σ a := by
  obtain ⟨i, xs, e1, e2⟩ := h
  obtain ⟨ys, e⟩ := (s.own i).mp ⟨xs, e1⟩
  exact ⟨i, ys, e, e2⟩
theorem Stp.trans (a : Stp O δ δ1 σ H H1) (b : Stp O δ1 δ2 σ H1 H2) : Stp O δ δ2 σ H H2 :=
  ⟨a.same.trans b.same, fun x hx n => (b.frame x hx fun z => n (a.ownI z)).trans (a.frame x hx n), fun i => (b.own i).trans (a.own i), fun i x => (b.dat i x).trans (a.dat i x), fun i x z => a.dct i x (b.dct i x z)⟩
theorem Rep.fresh (R : Rep K O δ σ H) {p : Addr} (h : H p = none) : ¬ O p := fun z => by
  obtain ⟨o, e⟩ := R.occ p z
  rw [h] at e; cases e
theorem fresh_back (R : Rep K O δ σ H) (R1 : Rep K O δ1 σ H1) (s : Stp O δ δ1 σ H H1) {p : Addr} (h : H1 p = none) : H p = none := by
  cases q : H p with
  | none => rfl
  | some o =>
    have n := R1.fresh h
    have := s.same p o (by rw [hid_no n]; exact q)
    rw [hid_no n, h] at this; cases this
theorem RvOk.back (R : Rep K O δ σ H) (R1 : Rep K O δ1 σ H1) (s : Stp O δ δ1 σ H H1) (h : RvOk K O σ δ2 H1 H2 v r) : RvOk K O σ δ2 H H2 v r := by
  cases r with
  | d x => exact h
  | b i xs => exact h
  | l xs =>
    obtain ⟨p, vs, e1, n, e, ha, hr⟩ := h
    exact ⟨p, vs, e1, fresh_back R R1 s n, e, ha, hr⟩
/-- a new object laid: all stands -/
theorem Rep.laid (R : Rep K O δ σ H) {p : Addr} {o : HO} (h : H p = none) : Rep K O δ σ (upd H p o) := by
  refine ⟨R.len, fun i x e => ?_, fun i xs e => ?_, R.inj, fun a z => ?_, R.ex.mv (fun _ z => z) (hid_new h) fun a us _ e => upd_ne (ne_of_none e h)⟩
  · obtain ⟨v, e1, d⟩ := R.dat i x e
    exact ⟨v, e1, Dp.up d (hid_new h)⟩
  · obtain ⟨a, vs, e1, z, e2, d⟩ := R.lst i xs e
    exact ⟨a, vs, e1, z, by rw [upd_ne (ne_of_none e2 h)]; exact e2, DpAll.up d (hid_new h)⟩
  · obtain ⟨u, e⟩ := R.occ a z
    exact ⟨u, by rw [upd_ne (ne_of_none e h)]; exact e⟩
theorem hid_newO {p : Addr} {o : HO} (h : H p = none) : Same (hid H O) (hid (upd H p o) fun a => O a ∨ a = p) := fun b x e => by
  obtain ⟨n, e⟩ := hid_some e
  have ne : b ≠ p := ne_of_none e h
  rw [hid_no (fun z => z.elim n ne), upd_ne ne]; exact e
theorem Rep.laidO (R : Rep K O δ σ H) {p : Addr} {o : HO} (h : H p = none) : Rep K (fun a => O a ∨ a = p) δ σ (upd H p o) := by
  refine ⟨R.len, fun i x e => ?_, fun i xs e => ?_, R.inj, fun a z => ?_, R.ex.mv (fun _ z => .inl z) (hid_newO h) fun a us _ e => upd_ne (ne_of_none e h)⟩
  · obtain ⟨v, e1, d⟩ := R.dat i x e
    exact ⟨v, e1, Dp.up d (hid_newO h)⟩
  · obtain ⟨a, vs, e1, z, e2, d⟩ := R.lst i xs e
    exact ⟨a, vs, e1, .inl z, by rw [upd_ne (ne_of_none e2 h)]; exact e2, DpAll.up d (hid_newO h)⟩
  · by_cases q : a = p
    · exact ⟨o, by rw [q, upd_same]⟩
    · obtain ⟨u, e⟩ := R.occ a (z.resolve_right q)
      exact ⟨u, by rw [upd_ne q]; exact e⟩
theorem Stp.laid (R : Rep K O δ σ H) {p : Addr} {o : HO} (h : H p = none) : Stp O δ δ σ H (upd H p o) :=
  ⟨hid_new h, fun a z _ => by obtain ⟨u, e⟩ := R.occ a z; rw [upd_ne (ne_of_none e h)], fun _ => Iff.rfl, fun _ _ => Iff.rfl, fun _ _ z => z⟩
theorem Rep.dpAt (R : Rep K O δ σ H) {i : Nat} {x : PyData} (e : δ[i]? = some (.d x)) : ∃ v, σ[i]? = some (some v) ∧ Dp K (hid H O) v x := R.dat i x e
end

/-! ### expressions -/
def lift (K : PySem.W.Frag) (w : WE) : TE := fun σ H Q => ∃ O δ P, Rep K O δ σ H ∧ w δ P ∧ ∀ r δ' v H', P r δ' → Stp O δ δ' σ H H' → Rep K O δ' σ H' → RvOk K O σ δ' H H' v r → Q v H'
def DE (X : Cx) (e : Expr) (w : WE) : Prop := PE X e (lift X.K w)
theorem pe_weak {X : Cx} {e : Expr} {t t' : TE} (h : PE X e t) (f : ∀ σ H Q, t' σ H Q → t σ H Q) : PE X e t' := ⟨fun pins s σ H Q I q => h.run pins s σ H Q I (f σ H Q q)⟩
section
variable {X : Cx} {a b c : Expr} {wa wb wc : WE} {pos : Pos}

/-- a constant -/
def wC (x : PyData) : WE := fun δ P => P (.d x) δ
theorem de_int {i : Int} {j} : DE X (.Constant (.int i) j pos) (wC (.int i)) := pe_weak pe_int fun σ H Q ⟨O, δ, P, R, w, f⟩ => f _ _ _ _ w Stp.refl R (.int i)
theorem de_bl {b : Bool} {j} : DE X (.Constant (.bool b) j pos) (wC (.bool b)) := pe_weak pe_bl fun σ H Q ⟨O, δ, P, R, w, f⟩ => f _ _ _ _ w Stp.refl R (.bl b)
theorem de_non {j} : DE X (.Constant .none j pos) (wC .none) := pe_weak pe_non fun σ H Q ⟨O, δ, P, R, w, f⟩ => f _ _ _ _ w Stp.refl R .non
theorem de_str {x : Str} {j} : DE X (.Constant (.str x) j pos) (wC (.str x)) := pe_weak pe_str fun σ H Q ⟨O, δ, P, R, w, f⟩ => f _ _ _ _ w Stp.refl R (.str x)
/-- a module's int -/
theorem de_globI {x : Str} {i : Int} {t : Tok} (hg : Gl X x) (hm : X.mg x = some (.int i t)) (hd : (x == ("__debug__" : Str)) = false := by decide) : DE X (.Name x pos) (wC (.int i)) :=
  pe_weak (pe_glob hg hm (v := .int i) ⟨t, rfl⟩ hd) fun σ H Q ⟨O, δ, P, R, w, f⟩ => f _ _ _ _ w Stp.refl R (.int i)
/-- a name -/
def wV (i : Nat) : WE := fun δ P => match δ[i]? with
  | some (.d x) => P (.d x) δ
  | some (.o xs) => P (.b i xs) δ
  | _ => False
theorem de_v (i : Nat) {x : Str} (hN : X.N[i]? = some x := by rfl) (hv : Vis X.env.scope x := by first | exact Or.inl rfl | exact Or.inr (Or.inl rfl) | exact Or.inr (Or.inr rfl)) (hd : (x == ("__debug__" : Str)) = false := by decide)
    (hcd : (x == ("__classdict__" : Str)) = false := by decide) : DE X (.Name x pos) (wV i) := by
  refine pe_weak (pe_var hN hv hd hcd) fun σ H Q ⟨O, δ, P, R, w, f⟩ => ?_
  unfold wV at w
  split at w
  · rename_i x e
    obtain ⟨v, e1, d⟩ := R.dat i x e
    exact ⟨v, e1, f _ _ _ _ w Stp.refl R d⟩
  · rename_i xs e
    obtain ⟨a, vs, e1, z, e2, d⟩ := R.lst i xs e
    exact ⟨_, e1, f _ _ _ _ w Stp.refl R ⟨e, e1⟩⟩
  · exact w.elim
/-- a value that is held while another is reckoned -/
theorem held {K : PySem.W.Frag} {O : Addr → Prop} {δ δ1 δ2 : Dl} {σ : L2.St} {H H1 H2 : Hp} {v : V} {r : Rv} {p : Prop} (R0 : Rep K O δ σ H) (k : RvOk K O σ δ1 H H1 v r) (s : Same (hid H1 O) (hid H2 O)) (R2 : Rep K O δ2 σ H2) (h : still r δ2 p) :
    Dq K (hid H2 O) H2 v r.as ∧ p := by
  cases r with
  | d x => exact ⟨.inl (Dp.up k s), h⟩
  | l xs =>
    obtain ⟨p, vs, rfl, n, e, ha, hr⟩ := k
    refine ⟨.inl (Dp.up (.lst (.inl (.inl ?_)) (DpAll.up ha (hid_sub fun a z => .inl z))) s), h⟩
    rw [hid_no (R0.fresh n)]; exact e
  | b i xs =>
    obtain ⟨e, h⟩ := h
    obtain ⟨a, vs, e1, z, e2, d⟩ := R2.lst i xs e
    have q := k.2
    rw [e1] at q
    cases q
    exact ⟨.inr ⟨a, vs, xs, rfl, rfl, .inl (.inl e2), d⟩, h⟩
theorem held0 {K : PySem.W.Frag} {O : Addr → Prop} {δ δ1 : Dl} {σ : L2.St} {H H1 : Hp} {v : V} {r : Rv} (R0 : Rep K O δ σ H) (k : RvOk K O σ δ1 H H1 v r) (R1 : Rep K O δ1 σ H1) : Dq K (hid H1 O) H1 v r.as := by
  refine (held (p := True) R0 k (Same.refl _) R1 ?_).1
  cases r with
  | d x => trivial
  | l xs => trivial
  | b i xs => exact ⟨k.1, trivial⟩

/-- where an operation ends: data, a new list, a new tuple -/
def Fin (K : PySem.W.Frag) (G H : Hp) (P : Rv → Prop) (Q : VK) : Prop :=
  (∀ v z, P (.d z) → Dp K G v z → Q v H) ∧ (∀ zs vs p, P (.l zs) → DpAll K G vs zs → H p = none → Q (.ref p) (upd H p (.lst vs))) ∧ (∀ zs vs p, P (.d (.tuple zs)) → DpAll K G vs zs → H p = none → Q (.ref p) (upd H p (.tup vs)))
theorem fin_of {K : PySem.W.Frag} {O : Addr → Prop} {δ δ2 : Dl} {σ : L2.St} {H H2 : Hp} {P : Rv → Dl → Prop} {Q : VK} (R0 : Rep K O δ σ H) (s : Stp O δ δ2 σ H H2) (R : Rep K O δ2 σ H2) (f : ∀ r δ' v H', P r δ' → Stp O δ δ' σ H H' → Rep K O δ' σ H' → RvOk K O σ δ' H H' v r → Q v H') :
    Fin K (hid H2 O) H2 (fun r => P r δ2) Q := by
  refine ⟨fun v z pz dz => f _ _ _ _ pz s R dz, fun zs vs p pz dz hp => ?_, fun zs vs p pz dz hp => ?_⟩
  · exact f _ _ _ _ pz (s.trans (Stp.laid R hp)) (R.laid hp) ⟨p, vs, rfl, fresh_back R0 R s hp, upd_same, DpAll.up dz (hid_newO hp), R.laidO hp⟩
  · refine f _ _ _ _ pz (s.trans (Stp.laid R hp)) (R.laid hp) (.tup ?_ (DpAll.up dz (hid_new hp)))
    rw [hid_no (R.fresh hp)]; exact upd_same
/-- two operands: R tells -/
abbrev R2D := PyData → PyData → (Rv → Prop) → Prop
def w2 (R : R2D) (wa wb : WE) : WE := fun δ P => wa δ fun r δ1 => wb δ1 fun s δ2 => still r δ2 (R r.as s.as fun z => P z δ2)
def OpD (K : PySem.W.Frag) (r : R2) (R : R2D) : Prop :=
  ∀ (G H : Hp) (x y : V) (d e : PyData) (P : Rv → Prop) (Q : VK), Dq K G H x d → Dq K G H y e → Same G H → R d e P → Fin K G H P Q → r x y H Q
theorem lift2 {K : PySem.W.Frag} {r : R2} {R : R2D} (h : OpD K r R) {σ : L2.St} {H : Hp} {Q : VK} (q : lift K (w2 R wa wb) σ H Q) : tOp r (lift K wa) (lift K wb) σ H Q := by
  obtain ⟨O, δ, P, R0, w, f⟩ := q
  refine ⟨O, δ, _, R0, w, fun r1 δ1 v1 H1 w1 s1 R1 k1 => ?_⟩
  refine ⟨O, δ1, _, R1, w1, fun r2 δ2 v2 H2 w2 s2 R2 k2 => ?_⟩
  obtain ⟨d1, w2⟩ := held R0 k1 s2.same R2 w2
  have d2 := held0 R1 k2 R2
  exact h (hid H2 O) H2 v1 v2 _ _ _ _ d1 d2 hid_le w2 (fin_of R0 (s1.trans s2) R2 f)
theorem de_op {op : Operator} {r : R2} {R : R2D} (ho : OpR X (binaryOp op) r) (hd : OpD X.K r R) (ha : DE X a wa) (hb : DE X b wb) : DE X (.BinOp a op b pos) (w2 R wa wb) :=
  pe_weak (pe_op ho ha hb) fun _ _ _ => lift2 hd
theorem de_cmp {op : CmpOp} {r : R2} {R : R2D} (ho : OpR X (compareOp op) r) (hd : OpD X.K r R) (ha : DE X a wa) (hb : DE X b wb) (hm : behindInMarks op b = false) : DE X (.Compare a [op] [b] pos) (w2 R wa wb) :=
  pe_weak (pe_cmpR ho ha hb hm) fun _ _ _ => lift2 hd
theorem de_ixg {r : R2} {R : R2D} (ho : IxR X r) (hd : OpD X.K r R) (ha : DE X a wa) (hb : DE X b wb) (hs : PlainIx b) : DE X (.Subscript a b pos) (w2 R wa wb) :=
  pe_weak (pe_ix ho ha hb hs) fun _ _ _ => lift2 hd

/-! ### operators by data -/
def rI2 (C : Int → Int → Prop) (g : Int → Int → PyData) : R2D := fun d e P => match d, e with
  | .int i, .int j => C i j ∧ P (.d (g i j))
  | _, _ => False
theorem opd_I {K : PySem.W.Frag} {C : Int → Int → Prop} {g : Int → Int → V} {gd : Int → Int → PyData} (h : ∀ G i j, Dp K G (g i j) (gd i j)) : OpD K (rI C g) (rI2 C gd) := by
  intro G H x y d e P Q hx hy _ r f
  unfold rI2 at r
  split at r
  · exact ⟨_, _, hx.int, hy.int, r.1, f.1 _ _ r.2 (h _ _ _)⟩
  · exact r.elim
def rI1 (g : Int → Int → PyData) : R2D := fun d e P => match d, e with
  | .int i, .int j => P (.d (g i j))
  | _, _ => False
theorem opd_I0 {K : PySem.W.Frag} {g : Int → Int → V} {gd : Int → Int → PyData} (h : ∀ G i j, Dp K G (g i j) (gd i j)) : OpD K (rI0 g) (rI1 gd) := by
  intro G H x y d e P Q hx hy _ r f
  unfold rI1 at r
  split at r
  · exact ⟨_, _, hx.int, hy.int, f.1 _ _ r (h _ _ _)⟩
  · exact r.elim
abbrev rAddD : R2D := rI1 fun i j => .int (i + j)
abbrev rSubD : R2D := rI1 fun i j => .int (i - j)
abbrev rMulD : R2D := rI2 CMul fun i j => .int (i * j)
abbrev rDivD : R2D := rI2 CDiv fun i j => .int (i / j)
abbrev rModD : R2D := rI2 (fun _ j => 0 < j) fun i j => .int (i % j)
abbrev rPowD : R2D := rI2 CPow fun i j => .int (i ^ j.toNat)
abbrev rLtD : R2D := rI1 fun i j => .bool (decide (i < j))
abbrev rLeD : R2D := rI1 fun i j => .bool (decide (i ≤ j))
abbrev rGtD : R2D := rI1 fun i j => .bool (decide (j < i))
abbrev rGeD : R2D := rI1 fun i j => .bool (decide (j ≤ i))
theorem de_add (ha : DE X a wa) (hb : DE X b wb) : DE X (.BinOp a .Add b pos) (w2 (rI1 fun i j => .int (i + j)) wa wb) := de_op op_add (opd_I0 fun _ _ _ => .int _) ha hb
theorem de_sub (ha : DE X a wa) (hb : DE X b wb) : DE X (.BinOp a .Sub b pos) (w2 (rI1 fun i j => .int (i - j)) wa wb) := de_op op_sub (opd_I0 fun _ _ _ => .int _) ha hb
theorem de_mul (ha : DE X a wa) (hb : DE X b wb) : DE X (.BinOp a .Mult b pos) (w2 (rI2 CMul fun i j => .int (i * j)) wa wb) := de_op op_mul (opd_I fun _ _ _ => .int _) ha hb
theorem de_fdiv (ha : DE X a wa) (hb : DE X b wb) : DE X (.BinOp a .FloorDiv b pos) (w2 (rI2 CDiv fun i j => .int (i / j)) wa wb) := de_op op_fdiv (opd_I fun _ _ _ => .int _) ha hb
theorem de_mod (ha : DE X a wa) (hb : DE X b wb) : DE X (.BinOp a .Mod b pos) (w2 (rI2 (fun _ j => 0 < j) fun i j => .int (i % j)) wa wb) := de_op op_mod (opd_I fun _ _ _ => .int _) ha hb
theorem de_pow (ha : DE X a wa) (hb : DE X b wb) : DE X (.BinOp a .Pow b pos) (w2 (rI2 CPow fun i j => .int (i ^ j.toNat)) wa wb) := de_op op_pow (opd_I fun _ _ _ => .int _) ha hb
theorem de_lt (ha : DE X a wa) (hb : DE X b wb) : DE X (.Compare a [.Lt] [b] pos) (w2 (rI1 fun i j => .bool (decide (i < j))) wa wb) := de_cmp op_lt (opd_I0 fun _ _ _ => .bl _) ha hb (nomark _)
theorem de_le (ha : DE X a wa) (hb : DE X b wb) : DE X (.Compare a [.LtE] [b] pos) (w2 (rI1 fun i j => .bool (decide (i ≤ j))) wa wb) := de_cmp op_le (opd_I0 fun _ _ _ => .bl _) ha hb (nomark _)
theorem de_gt (ha : DE X a wa) (hb : DE X b wb) : DE X (.Compare a [.Gt] [b] pos) (w2 (rI1 fun i j => .bool (decide (j < i))) wa wb) := de_cmp op_gt (opd_I0 fun _ _ _ => .bl _) ha hb (nomark _)
theorem de_ge (ha : DE X a wa) (hb : DE X b wb) : DE X (.Compare a [.GtE] [b] pos) (w2 (rI1 fun i j => .bool (decide (j ≤ i))) wa wb) := de_cmp op_ge (opd_I0 fun _ _ _ => .bl _) ha hb (nomark _)
/-- == and != of data -/
def eqOk : PyData → PyData → Bool
  | .str _, .str _ => true
  | d, e => SeqAt.shaped d && SeqAt.shaped e
def rEqT : R2D := fun d e P => eqOk d e = true ∧ P (.d (.bool (PyData.eqv d e)))
def rNeT : R2D := fun d e P => eqOk d e = true ∧ P (.d (.bool (!PyData.eqv d e)))
theorem Dq.str {K : PySem.W.Frag} {G H : Hp} {v : V} {x : Str} (h : Dq K G H v (.str x)) : v = .str x := by
  rcases h with h | ⟨_, _, _, _, e, _⟩
  · cases h; rfl
  · cases e
theorem eqOk_ways {d e : PyData} (h : eqOk d e = true) : (∃ x y, d = .str x ∧ e = .str y) ∨ (SeqAt.shaped d = true ∧ SeqAt.shaped e = true) := by
  cases d <;> cases e <;> first
    | exact .inl ⟨_, _, rfl, rfl⟩
    | exact .inr (Bool.and_eq_true_iff.mp h)
theorem opd_eq {K : PySem.W.Frag} : OpD K (fun x y H Q => rEqD K x y H Q ∨ rEq x y H Q) rEqT := by
  intro G H x y d e P Q hx hy s r f
  rcases eqOk_ways r.1 with ⟨a, b, rfl, rfl⟩ | ⟨h1, h2⟩
  · rw [hx.str, hy.str]
    refine .inr ⟨rfl, f.1 _ _ r.2 ?_⟩
    rw [dec_str, show PyData.eqv (.str a) (.str b) = (a == b) by unfold PyData.eqv; rfl]
    exact .bl _
  · exact .inl ⟨d, e, (hx.dp s).shaped h1, (hy.dp s).shaped h2, h1, h2, f.1 _ _ r.2 (.bl _)⟩
theorem opd_ne {K : PySem.W.Frag} : OpD K (fun x y H Q => rNeD K x y H Q ∨ rNe x y H Q) rNeT := by
  intro G H x y d e P Q hx hy s r f
  rcases eqOk_ways r.1 with ⟨a, b, rfl, rfl⟩ | ⟨h1, h2⟩
  · rw [hx.str, hy.str]
    refine .inr ⟨rfl, f.1 _ _ r.2 ?_⟩
    rw [dec_str, show PyData.eqv (.str a) (.str b) = (a == b) by unfold PyData.eqv; rfl]
    exact .bl _
  · exact .inl ⟨d, e, (hx.dp s).shaped h1, (hy.dp s).shaped h2, h1, h2, f.1 _ _ r.2 (.bl _)⟩
theorem de_eq (hu : X.A.units + 64 < cLine) (ha : DE X a wa) (hb : DE X b wb) : DE X (.Compare a [.Eq] [b] pos) (w2 rEqT wa wb) := de_cmp ((op_eqD hu).or op_eq) opd_eq ha hb (nomark _)
theorem de_ne (hu : X.A.units + 64 < cLine) (ha : DE X a wa) (hb : DE X b wb) : DE X (.Compare a [.NotEq] [b] pos) (w2 rNeT wa wb) := de_cmp ((op_neD hu).or op_ne) opd_ne ha hb (nomark _)
/-- is None -/
def isNo : PyData → Bool
  | .none => true
  | _ => false
def rIsT (neg : Bool) : R2D := fun d e P => match e with
  | .none => P (.d (.bool (if neg then !isNo d else isNo d)))
  | _ => False
theorem dp_non {K : PySem.W.Frag} {G : Hp} {x : V} {d : PyData} (h : Dp K G x d) : decide (x = .non) = isNo d := by cases h <;> simp [isNo]
theorem de_is (ha : DE X a wa) (hb : DE X b wb) : DE X (.Compare a [.Is] [b] pos) (w2 (rIsT false) wa wb) := de_cmp op_isN (by
  intro G H x y d e P Q hx hy s r f
  unfold rIsT at r
  split at r
  · refine ⟨hy.non, f.1 _ _ r ?_⟩
    rw [dp_non (hx.dp s)]; exact .bl _
  · exact r.elim) ha hb (nomark _)
theorem de_isnot (ha : DE X a wa) (hb : DE X b wb) : DE X (.Compare a [.IsNot] [b] pos) (w2 (rIsT true) wa wb) := de_cmp op_notN (by
  intro G H x y d e P Q hx hy s r f
  unfold rIsT at r
  split at r
  · refine ⟨hy.non, f.1 _ _ r ?_⟩
    rw [dp_non (hx.dp s)]; exact .bl _
  · exact r.elim) ha hb (nomark _)
/-- in, not in a list or tuple of flat things -/
def flat : PyData → Bool
  | .none => true
  | .bool _ => true
  | .int _ => true
  | .str _ => true
  | _ => false
def inD (x : PyData) (xs : List PyData) : Bool := xs.any fun y => PyData.eqv y x
def rInT (neg : Bool) : R2D := fun d e P => match e with
  | .tuple xs => (flat d = true ∧ xs.all flat = true) ∧ P (.d (.bool (if neg then !inD d xs else inD d xs)))
  | .list xs => (flat d = true ∧ xs.all flat = true) ∧ P (.d (.bool (if neg then !inD d xs else inD d xs)))
  | _ => False
theorem dp_flat {K : PySem.W.Frag} {G : Hp} {x : V} {d : PyData} (h : Dp K G x d) (f : flat d = true) : flatV x = true := by cases h <;> first | rfl | cases f
theorem dp_eqv {K : PySem.W.Frag} {G : Hp} {x y : V} {d e : PyData} (h : Dp K G x d) (g : Dp K G y e) (f : flat d = true) (f2 : flat e = true) : eqV x y = PyData.eqv d e := by
  cases h <;> cases g <;> first | rfl | (unfold PyData.eqv; rfl) | cases f | cases f2
theorem da_flat {K : PySem.W.Frag} {G : Hp} : ∀ {xs : List V} {ds : List PyData}, DpAll K G xs ds → ds.all flat = true → xs.all flatV = true
  | [], _, h, _ => rfl
  | v :: vs, _, h, f => by
    cases h with
    | cons h1 h2 =>
      rw [List.all_cons, Bool.and_eq_true] at f ⊢
      exact ⟨dp_flat h1 f.1, da_flat h2 f.2⟩
theorem da_in {K : PySem.W.Frag} {G : Hp} {x : V} {d : PyData} (hx : Dp K G x d) (fx : flat d = true) : ∀ {xs : List V} {ds : List PyData}, DpAll K G xs ds → ds.all flat = true → inV x xs = inD d ds
  | [], _, h, _ => by cases h; rfl
  | v :: vs, _, h, f => by
    cases h with
    | cons h1 h2 =>
      rw [List.all_cons, Bool.and_eq_true] at f
      show (eqV v x || inV x vs) = (PyData.eqv _ d || inD d _)
      rw [dp_eqv h1 hx f.1 fx, da_in hx fx h2 f.2]
theorem opd_in {K : PySem.W.Frag} {neg : Bool} : OpD K (rIn K neg) (rInT neg) := by
  intro G H x y d e P Q hx hy s r f
  unfold rInT at r
  split at r
  · obtain ⟨p, xs, rfl, hs, ha⟩ := hy.tup s
    have hx := hx.dp s
    have ha := DpAll.up ha s
    refine ⟨_, _, rfl, .inr hs, dp_flat hx r.1.1, da_flat ha r.1.2, f.1 _ _ r.2 ?_⟩
    rw [da_in hx r.1.1 ha r.1.2]; exact .bl _
  · obtain ⟨p, xs, rfl, hs, ha⟩ := hy.lst s
    have hx := hx.dp s
    have ha := DpAll.up ha s
    refine ⟨_, _, rfl, .inl hs, dp_flat hx r.1.1, da_flat ha r.1.2, f.1 _ _ r.2 ?_⟩
    rw [da_in hx r.1.1 ha r.1.2]; exact .bl _
  · exact r.elim
theorem de_in (ha : DE X a wa) (hb : DE X b wb) (hm : behindInMarks .In b = false := by rfl) : DE X (.Compare a [.In] [b] pos) (w2 (rInT false) wa wb) := de_cmp op_in_seq opd_in ha hb hm
theorem de_notin (ha : DE X a wa) (hb : DE X b wb) (hm : behindInMarks .NotIn b = false := by rfl) : DE X (.Compare a [.NotIn] [b] pos) (w2 (rInT true) wa wb) := de_cmp op_notIn_seq opd_in ha hb hm
/-- xs[i] -/
def rIxD : R2D := fun d e P => match d, e with
  | .tuple xs, .int i => match atI xs i with
    | some z => P (.d z)
    | none => False
  | .list xs, .int i => match atI xs i with
    | some z => P (.d z)
    | none => False
  | _, _ => False
theorem atI_dp {K : PySem.W.Frag} {G : Hp} {xs : List V} {ds : List PyData} (h : DpAll K G xs ds) {i : Int} {z : PyData} (e : atI ds i = some z) : ∃ v, atI xs i = some v ∧ Dp K G v z := by
  unfold atI at e ⊢
  rw [da_len h]
  cases q : ixN ds.length i with
  | none => rw [q] at e; cases e
  | some j =>
    rw [q] at e
    exact da_get h (i := j) e
theorem de_ix (ha : DE X a wa) (hb : DE X b wb) (hs : PlainIx b := by exact fun _ _ => rfl) : DE X (.Subscript a b pos) (w2 rIxD wa wb) := de_ixg (ix_list.or ix_tup) (by
  intro G H x y d e P Q hx hy s r f
  unfold rIxD at r
  split at r
  · split at r
    · rename_i e
      obtain ⟨p, xs, rfl, hq, ha⟩ := hx.tup s
      obtain ⟨v, e1, dv⟩ := atI_dp ha e
      exact .inr ⟨_, _, _, v, rfl, hy.int, hq, e1, f.1 _ _ r dv⟩
    · exact r.elim
  · split at r
    · rename_i e
      obtain ⟨p, xs, rfl, hq, ha⟩ := hx.lst s
      obtain ⟨v, e1, dv⟩ := atI_dp ha e
      exact .inl ⟨_, _, _, v, rfl, hy.int, hq, e1, f.1 _ _ r dv⟩
    · exact r.elim
  · exact r.elim) ha hb hs
end
end Dw

namespace Dw
open PySem PySem.Spec PyProof.Rows L2
section
variable {X : Cx} {a b c e : Expr} {wa wb wc we : WE} {pos : Pos} {es rest : List Expr}

/-! ### tests -/
abbrev WT := Dl → (Bool → Dl → Prop) → Prop
def liftT (K : PySem.W.Frag) (w : WT) : TT := fun σ H Q => ∃ O δ P, Rep K O δ σ H ∧ w δ P ∧ ∀ r δ' H', P r δ' → Stp O δ δ' σ H H' → Rep K O δ' σ H' → Q r H'
def DT (X : Cx) (e : Expr) (w : WT) : Prop := PT X e (liftT X.K w)
def DW (X : Cx) (e : Expr) (w : WT) : Prop := PW X e (liftT X.K w)
theorem pt_weak {t t' : TT} (h : PT X e t) (f : ∀ σ H Q, t' σ H Q → t σ H Q) : PT X e t' := ⟨fun pins s σ H Q I q => h.run pins s σ H Q I (f σ H Q q)⟩
theorem pw_weak {t t' : TT} (h : PW X e t) (f : ∀ σ H Q, t' σ H Q → t σ H Q) : PW X e t' := ⟨fun wh pins s σ H Q I q => h.run wh pins s σ H Q I (f σ H Q q)⟩
/-- a value that is a bool, as a test -/
def wB (w : WE) : WT := fun δ P => w δ fun r δ1 => match r with
  | .d (.bool k) => P k δ1
  | _ => False
theorem liftB {K : PySem.W.Frag} {w : WE} {σ : L2.St} {H : Hp} {Q : Bool → Hp → Prop} (q : liftT K (wB w) σ H Q) : lift K w σ H (fun x H1 => ∃ k, x = .bl k ∧ Q k H1) := by
  obtain ⟨O, δ, P, R0, w, f⟩ := q
  refine ⟨O, δ, _, R0, w, fun r δ1 v H1 w1 s1 R1 k1 => ?_⟩
  cases r with
  | l xs => exact w1.elim
  | b i xs => exact w1.elim
  | d x =>
    cases x <;> first | exact False.elim w1 | skip
    rename_i k
    have k1 : Dp K (hid H1 O) v (.bool k) := k1
    cases k1
    exact ⟨k, rfl, f _ _ _ w1 s1 R1⟩
theorem dt_val (h : DE X e we) (he : ∀ whole, isTrue e X.env whole = (do let v ← whole; standAt e.pos; holding [v] (truthy v)) := by intro _; rfl) : DT X e (wB we) := pt_weak (pt_val h he) fun _ _ _ q => liftB q
/-- a comparison as a test: from its rule as a value -/
theorem dt_cmp2 {op : CmpOp} {r : R2} {R : R2D} (ho : OpR X (compareOp op) r) (hd : OpD X.K r R) (ha : DE X a wa) (hb : DE X b wb) (hm : behindInMarks op b = false) : DT X (.Compare a [op] [b] pos) (wB (w2 R wa wb)) :=
  pt_weak (pt_cmpR ho ha hb hm) fun _ _ _ q => lift2 hd (liftB q)
theorem dt_lt (ha : DE X a wa) (hb : DE X b wb) : DT X (.Compare a [.Lt] [b] pos) (wB (w2 (rI1 fun i j => .bool (decide (i < j))) wa wb)) := dt_cmp2 op_lt (opd_I0 fun _ _ _ => .bl _) ha hb (nomark _)
theorem dt_le (ha : DE X a wa) (hb : DE X b wb) : DT X (.Compare a [.LtE] [b] pos) (wB (w2 (rI1 fun i j => .bool (decide (i ≤ j))) wa wb)) := dt_cmp2 op_le (opd_I0 fun _ _ _ => .bl _) ha hb (nomark _)
theorem dt_gt (ha : DE X a wa) (hb : DE X b wb) : DT X (.Compare a [.Gt] [b] pos) (wB (w2 (rI1 fun i j => .bool (decide (j < i))) wa wb)) := dt_cmp2 op_gt (opd_I0 fun _ _ _ => .bl _) ha hb (nomark _)
theorem dt_ge (ha : DE X a wa) (hb : DE X b wb) : DT X (.Compare a [.GtE] [b] pos) (wB (w2 (rI1 fun i j => .bool (decide (j ≤ i))) wa wb)) := dt_cmp2 op_ge (opd_I0 fun _ _ _ => .bl _) ha hb (nomark _)
theorem dt_eq (hu : X.A.units + 64 < cLine) (ha : DE X a wa) (hb : DE X b wb) : DT X (.Compare a [.Eq] [b] pos) (wB (w2 rEqT wa wb)) := dt_cmp2 ((op_eqD hu).or op_eq) opd_eq ha hb (nomark _)
theorem dt_ne (hu : X.A.units + 64 < cLine) (ha : DE X a wa) (hb : DE X b wb) : DT X (.Compare a [.NotEq] [b] pos) (wB (w2 rNeT wa wb)) := dt_cmp2 ((op_neD hu).or op_ne) opd_ne ha hb (nomark _)
theorem opd_is {K : PySem.W.Frag} : OpD K (fun x y H Q => y = .non ∧ Q (.bl (decide (x = .non))) H) (rIsT false) := by
  intro G H x y d e P Q hx hy s r f
  unfold rIsT at r
  split at r
  · refine ⟨hy.non, f.1 _ _ r ?_⟩
    rw [dp_non (hx.dp s)]; exact .bl _
  · exact r.elim
theorem opd_isnot {K : PySem.W.Frag} : OpD K (fun x y H Q => y = .non ∧ Q (.bl (!decide (x = .non))) H) (rIsT true) := by
  intro G H x y d e P Q hx hy s r f
  unfold rIsT at r
  split at r
  · refine ⟨hy.non, f.1 _ _ r ?_⟩
    rw [dp_non (hx.dp s)]; exact .bl _
  · exact r.elim
theorem dt_is (ha : DE X a wa) (hb : DE X b wb) : DT X (.Compare a [.Is] [b] pos) (wB (w2 (rIsT false) wa wb)) := dt_cmp2 op_isN opd_is ha hb (nomark _)
theorem dt_isnot (ha : DE X a wa) (hb : DE X b wb) : DT X (.Compare a [.IsNot] [b] pos) (wB (w2 (rIsT true) wa wb)) := dt_cmp2 op_notN opd_isnot ha hb (nomark _)
theorem dt_in (ha : DE X a wa) (hb : DE X b wb) (hm : behindInMarks .In b = false := by rfl) : DT X (.Compare a [.In] [b] pos) (wB (w2 (rInT false) wa wb)) := dt_cmp2 op_in_seq opd_in ha hb hm
theorem dt_notin (ha : DE X a wa) (hb : DE X b wb) (hm : behindInMarks .NotIn b = false := by rfl) : DT X (.Compare a [.NotIn] [b] pos) (wB (w2 (rInT true) wa wb)) := dt_cmp2 op_notIn_seq opd_in ha hb hm
/-- truth of a list, a tuple, a number -/
def truD : PyData → Option Bool
  | .none => some false
  | .bool b => some b
  | .int i => some (i != 0)
  | .list xs => some (!xs.isEmpty)
  | .tuple xs => some (!xs.isEmpty)
  | _ => none
def wTru (w : WE) : WT := fun δ P => w δ fun r δ1 => match truD r.as with
  | some k => P k δ1
  | none => False
theorem da_empty {K : PySem.W.Frag} {G : Hp} {vs : List V} {ds : List PyData} (h : DpAll K G vs ds) : vs.isEmpty = ds.isEmpty := by cases h <;> rfl
theorem dt_truth (h : DE X e we) (he : ∀ whole, isTrue e X.env whole = (do let v ← whole; standAt e.pos; holding [v] (truthy v)) := by intro _; rfl) : DT X e (wTru we) := by
  refine pt_weak (pt_truth h he) fun σ H Q q => ?_
  obtain ⟨O, δ, P, R0, w, f⟩ := q
  refine ⟨O, δ, _, R0, w, fun r δ1 v H1 w1 s1 R1 k1 => ?_⟩
  have dq := held0 R0 k1 R1
  split at w1
  · rename_i k e
    refine ⟨k, ?_, f _ _ _ w1 s1 R1⟩
    cases q : r.as with
    | none => rw [q] at dq e; cases e; rw [dq.non]; exact rfl
    | bool i => rw [q] at dq e; cases e; rw [dq.bl]; exact rfl
    | int i => rw [q] at dq e; cases e; rw [dq.int]; exact rfl
    | str i => rw [q] at e; cases e
    | dict i => rw [q] at e; cases e
    | list ds =>
      rw [q] at dq e; cases e
      obtain ⟨p, xs, rfl, h1, h2⟩ := dq.lst hid_le
      exact .inl ⟨xs, h1, by rw [da_empty h2]⟩
    | tuple ds =>
      rw [q] at dq e; cases e
      obtain ⟨p, xs, rfl, h1, h2⟩ := dq.tup hid_le
      exact .inr (.inl ⟨xs, h1, by rw [da_empty h2]⟩)
  · exact w1.elim
def wAndT (t u : WT) : WT := fun δ P => t δ fun k δ1 => if k = true then u δ1 P else P false δ1
def wOrT (t u : WT) : WT := fun δ P => t δ fun k δ1 => if k = true then P true δ1 else u δ1 P
def wNotT (t : WT) : WT := fun δ P => t δ fun k δ1 => P (!k) δ1
variable {ta tb tc : WT}
theorem lift_and {K : PySem.W.Frag} {σ : L2.St} {H : Hp} {Q : Bool → Hp → Prop} (q : liftT K (wAndT ta tb) σ H Q) : tAnd (liftT K ta) (liftT K tb) σ H Q := by
  obtain ⟨O, δ, P, R0, w, f⟩ := q
  refine ⟨O, δ, _, R0, w, fun k δ1 H1 w1 s1 R1 => ?_⟩
  cases k with
  | true => exact ⟨O, δ1, P, R1, w1, fun r δ2 H2 w2 s2 R2 => f _ _ _ w2 (s1.trans s2) R2⟩
  | false => exact f _ _ _ w1 s1 R1
theorem lift_or {K : PySem.W.Frag} {σ : L2.St} {H : Hp} {Q : Bool → Hp → Prop} (q : liftT K (wOrT ta tb) σ H Q) : tOr (liftT K ta) (liftT K tb) σ H Q := by
  obtain ⟨O, δ, P, R0, w, f⟩ := q
  refine ⟨O, δ, _, R0, w, fun k δ1 H1 w1 s1 R1 => ?_⟩
  cases k with
  | false => exact ⟨O, δ1, P, R1, w1, fun r δ2 H2 w2 s2 R2 => f _ _ _ w2 (s1.trans s2) R2⟩
  | true => exact f _ _ _ w1 s1 R1
theorem dw_and1 (h : DT X a ta) : DW X (.BoolOp .And [a] pos) ta := pw_and1 h
theorem dw_or1 (h : DT X a ta) : DW X (.BoolOp .Or [a] pos) ta := pw_or1 h
theorem dw_and (h : DT X a ta) (h2 : DW X (.BoolOp .And (b :: rest) pos) tb) : DW X (.BoolOp .And (a :: b :: rest) pos) (wAndT ta tb) := pw_weak (pw_and h h2) fun _ _ _ => lift_and
theorem dw_or (h : DT X a ta) (h2 : DW X (.BoolOp .Or (b :: rest) pos) tb) : DW X (.BoolOp .Or (a :: b :: rest) pos) (wOrT ta tb) := pw_weak (pw_or h h2) fun _ _ _ => lift_or
theorem dt_w (h : DW X e ta) : DT X e ta := PW.pt h
theorem dt_not (h : DT X a ta) : DT X (.UnaryOp .Not a pos) (wNotT ta) := by
  refine pt_weak (pt_not h) fun σ H Q q => ?_
  obtain ⟨O, δ, P, R0, w, f⟩ := q
  exact ⟨O, δ, _, R0, w, fun k δ1 H1 w1 s1 R1 => f _ _ _ w1 s1 R1⟩
/-- .. as values -/
def wAndV (wa wb : WE) : WE := fun δ P => wa δ fun r δ1 => match r with
  | .d (.bool k) => if k = true then wb δ1 P else P (.d (.bool false)) δ1
  | _ => False
def wOrV (wa wb : WE) : WE := fun δ P => wa δ fun r δ1 => match r with
  | .d (.bool k) => if k = true then P (.d (.bool true)) δ1 else wb δ1 P
  | _ => False
def wNotV (wa : WE) : WE := fun δ P => wa δ fun r δ1 => match r with
  | .d (.bool k) => P (.d (.bool (!k))) δ1
  | _ => False
theorem de_one {op} (h : DE X a wa) : DE X (.BoolOp op [a] pos) wa := pe_one h
theorem de_and (ha : DE X a wa) (hb : DE X (.BoolOp .And (b :: rest) pos) wb) : DE X (.BoolOp .And (a :: b :: rest) pos) (wAndV wa wb) := by
  refine pe_weak (pe_and ha hb) fun σ H Q ⟨O, δ, P, R0, w, f⟩ => ?_
  refine ⟨O, δ, _, R0, w, fun r δ1 v H1 w1 s1 R1 k1 => ?_⟩
  cases r with
  | l xs => exact w1.elim
  | b i xs => exact w1.elim
  | d x =>
    cases x <;> first | exact False.elim w1 | skip
    rename_i k
    have k1 : Dp X.K (hid H1 O) v (.bool k) := k1
    cases k1
    refine ⟨k, rfl, ?_⟩
    cases k with
    | true => exact ⟨O, δ1, P, R1, w1, fun r δ2 v H2 w2 s2 R2 k2 => f _ _ _ _ w2 (s1.trans s2) R2 (RvOk.back R0 R1 s1 k2)⟩
    | false => exact f _ _ _ _ w1 s1 R1 (.bl false)
theorem de_or (ha : DE X a wa) (hb : DE X (.BoolOp .Or (b :: rest) pos) wb) : DE X (.BoolOp .Or (a :: b :: rest) pos) (wOrV wa wb) := by
  refine pe_weak (pe_or ha hb) fun σ H Q ⟨O, δ, P, R0, w, f⟩ => ?_
  refine ⟨O, δ, _, R0, w, fun r δ1 v H1 w1 s1 R1 k1 => ?_⟩
  cases r with
  | l xs => exact w1.elim
  | b i xs => exact w1.elim
  | d x =>
    cases x <;> first | exact False.elim w1 | skip
    rename_i k
    have k1 : Dp X.K (hid H1 O) v (.bool k) := k1
    cases k1
    refine ⟨k, rfl, ?_⟩
    cases k with
    | false => exact ⟨O, δ1, P, R1, w1, fun r δ2 v H2 w2 s2 R2 k2 => f _ _ _ _ w2 (s1.trans s2) R2 (RvOk.back R0 R1 s1 k2)⟩
    | true => exact f _ _ _ _ w1 s1 R1 (.bl true)
theorem de_not (ha : DE X a wa) : DE X (.UnaryOp .Not a pos) (wNotV wa) := by
  refine pe_weak (pe_not ha) fun σ H Q ⟨O, δ, P, R0, w, f⟩ => ?_
  refine ⟨O, δ, _, R0, w, fun r δ1 v H1 w1 s1 R1 k1 => ?_⟩
  cases r with
  | l xs => exact w1.elim
  | b i xs => exact w1.elim
  | d x =>
    cases x <;> first | exact False.elim w1 | skip
    rename_i k
    have k1 : Dp X.K (hid H1 O) v (.bool k) := k1
    cases k1
    exact ⟨k, rfl, f _ _ _ _ w1 s1 R1 (.bl _)⟩
/-- a if t else b -/
def wIf (t : WT) (wa wb : WE) : WE := fun δ P => t δ fun k δ1 => if k = true then wa δ1 P else wb δ1 P
theorem de_if (hc : DT X c tc) (ha : DE X a wa) (hb : DE X b wb) : DE X (.IfExp c a b pos) (wIf tc wa wb) := by
  refine pe_weak (pe_ifExp hc ha hb) fun σ H Q ⟨O, δ, P, R0, w, f⟩ => ?_
  refine ⟨O, δ, _, R0, w, fun k δ1 H1 w1 s1 R1 => ?_⟩
  cases k with
  | true => exact ⟨O, δ1, P, R1, w1, fun r δ2 v H2 w2 s2 R2 k2 => f _ _ _ _ w2 (s1.trans s2) R2 (RvOk.back R0 R1 s1 k2)⟩
  | false => exact ⟨O, δ1, P, R1, w1, fun r δ2 v H2 w2 s2 R2 k2 => f _ _ _ _ w2 (s1.trans s2) R2 (RvOk.back R0 R1 s1 k2)⟩
/-- -n -/
def wNeg (wa : WE) : WE := fun δ P => wa δ fun r δ1 => match r with
  | .d (.int k) => P (.d (.int (-k))) δ1
  | _ => False
theorem de_neg (ha : DE X a wa) : DE X (.UnaryOp .USub a pos) (wNeg wa) := by
  refine pe_weak (pe_un un_neg ha) fun σ H Q ⟨O, δ, P, R0, w, f⟩ => ?_
  refine ⟨O, δ, _, R0, w, fun r δ1 v H1 w1 s1 R1 k1 => ?_⟩
  cases r with
  | l xs => exact w1.elim
  | b i xs => exact w1.elim
  | d x =>
    cases x <;> first | exact False.elim w1 | skip
    rename_i k
    have k1 : Dp X.K (hid H1 O) v (.int k) := k1
    cases k1
    exact ⟨k, rfl, f _ _ _ _ w1 s1 R1 (.int _)⟩
/-- a < b < c -/
def wChain (R R' : R2D) (wa wb wc : WE) : WE := fun δ P => wa δ fun r δ1 => wb δ1 fun s δ2 => still r δ2 (R r.as s.as fun z => match z with
  | .d (.bool k) => if k = true then wc δ2 fun u δ3 => still s δ3 (R' s.as u.as fun z => P z δ3) else P (.d (.bool false)) δ2
  | _ => False)
theorem lift_chain {K : PySem.W.Frag} {r r' : R2} {R R' : R2D} (h : OpD K r R) (h' : OpD K r' R') {σ : L2.St} {H : Hp} {Q : VK} (q : lift K (wChain R R' wa wb wc) σ H Q) : tChain r r' (lift K wa) (lift K wb) (lift K wc) σ H Q := by
  obtain ⟨O, δ, P, R0, w, f⟩ := q
  refine ⟨O, δ, _, R0, w, fun r1 δ1 v1 H1 w1 s1 R1 k1 => ?_⟩
  refine ⟨O, δ1, _, R1, w1, fun r2 δ2 v2 H2 w2 s2 R2 k2 => ?_⟩
  obtain ⟨d1, w2⟩ := held R0 k1 s2.same R2 w2
  have d2 := held0 R1 k2 R2
  refine h (hid H2 O) H2 v1 v2 _ _ _ _ d1 d2 hid_le w2 ⟨fun v z pz dz => ?_, fun zs vs p pz => pz.elim, fun zs vs p pz => pz.elim⟩
  cases z <;> first | exact False.elim pz | skip
  rename_i k
  cases dz
  refine ⟨k, rfl, ?_⟩
  cases k with
  | false => exact f _ _ _ _ pz (s1.trans s2) R2 (.bl false)
  | true =>
    refine ⟨O, δ2, _, R2, pz, fun r3 δ3 v3 H3 w3 s3 R3 k3 => ?_⟩
    obtain ⟨d2, w3⟩ := held R1 k2 s3.same R3 w3
    exact h' (hid H3 O) H3 v2 v3 _ _ _ _ d2 (held0 R2 k3 R3) hid_le w3 (fin_of R0 ((s1.trans s2).trans s3) R3 f)
theorem de_chain {op op' : CmpOp} {r r' : R2} {R R' : R2D} (ho : OpR X (compareOp op) r) (hd : OpD X.K r R) (ho' : OpR X (compareOp op') r') (hd' : OpD X.K r' R') (ha : DE X a wa) (hb : DE X b wb) (hc : DE X c wc)
    (hm : lastMarks [op, op'] [b, c] = false := by with_unfolding_all rfl) : DE X (.Compare a [op, op'] [b, c] pos) (wChain R R' wa wb wc) := pe_weak (pe_chain ho ho' ha hb hc hm) fun _ _ _ => lift_chain hd hd'
theorem de_lele (ha : DE X a wa) (hb : DE X b wb) (hc : DE X c wc) (hm : lastMarks [.LtE, .LtE] [b, c] = false := by with_unfolding_all rfl) : DE X (.Compare a [.LtE, .LtE] [b, c] pos) (wChain (rI1 fun i j => .bool (decide (i ≤ j))) (rI1 fun i j => .bool (decide (i ≤ j))) wa wb wc) :=
  de_chain op_le (opd_I0 fun _ _ _ => .bl _) op_le (opd_I0 fun _ _ _ => .bl _) ha hb hc hm

/-! ### lists of arguments -/
abbrev WA := Dl → (List Rv → Dl → Prop) → Prop
def stillAll : List Rv → Dl → Prop → Prop
  | [], _, p => p
  | r :: rs, δ, p => still r δ (stillAll rs δ p)
inductive DqAll (K : PySem.W.Frag) (G H : Hp) : List V → List PyData → Prop
  | nil : DqAll K G H [] []
  | cons {v : V} {vs : List V} {d : PyData} {ds : List PyData} : Dq K G H v d → DqAll K G H vs ds → DqAll K G H (v :: vs) (d :: ds)
def RvsOk (K : PySem.W.Frag) (O : Addr → Prop) (σ : L2.St) (δ' : Dl) (H H' : Hp) : List V → List Rv → Prop
  | [], [] => True
  | v :: vs, r :: rs => (∃ δ1 H1, RvOk K O σ δ1 H H1 v r ∧ Same (hid H1 O) (hid H' O)) ∧ RvsOk K O σ δ' H H' vs rs
  | _, _ => False
def liftA (K : PySem.W.Frag) (w : WA) : TA := fun σ H Q => ∃ O δ P, Rep K O δ σ H ∧ w δ P ∧ ∀ rs δ' vs H', P rs δ' → Stp O δ δ' σ H H' → Rep K O δ' σ H' → RvsOk K O σ δ' H H' vs rs → Q vs H'
def DA (X : Cx) (es : List Expr) (w : WA) : Prop := PA X es (liftA X.K w)
theorem pa_weak {t t' : TA} (h : PA X es t) (f : ∀ σ H Q, t' σ H Q → t σ H Q) : PA X es t' := ⟨fun pos pins s σ H Q I q => h.run pos pins s σ H Q I (f σ H Q q)⟩
theorem RvsOk.back {K : PySem.W.Frag} {O : Addr → Prop} {δ δ1 δ2 : Dl} {σ : L2.St} {H H1 H2 : Hp} (R : Rep K O δ σ H) (R1 : Rep K O δ1 σ H1) (s : Stp O δ δ1 σ H H1) : ∀ {vs : List V} {rs : List Rv}, RvsOk K O σ δ2 H1 H2 vs rs → RvsOk K O σ δ2 H H2 vs rs
  | [], [], _ => trivial
  | v :: vs, r :: rs, h => by
    obtain ⟨⟨δ3, H3, h1, h2⟩, h3⟩ := h
    exact ⟨⟨δ3, H3, RvOk.back R R1 s h1, h2⟩, RvsOk.back R R1 s h3⟩
theorem RvsOk.dq {K : PySem.W.Frag} {O : Addr → Prop} {δ δ2 : Dl} {σ : L2.St} {H H2 : Hp} {p : Prop} (R : Rep K O δ σ H) (R2 : Rep K O δ2 σ H2) : ∀ {vs : List V} {rs : List Rv}, RvsOk K O σ δ2 H H2 vs rs → stillAll rs δ2 p → DqAll K (hid H2 O) H2 vs (rs.map Rv.as) ∧ p
  | [], [], _, q => ⟨.nil, q⟩
  | v :: vs, r :: rs, h, q => by
    obtain ⟨⟨δ3, H3, h1, h2⟩, h3⟩ := h
    obtain ⟨d, q⟩ := held R h1 h2 R2 q
    obtain ⟨ds, q⟩ := RvsOk.dq R R2 h3 q
    exact ⟨.cons d ds, q⟩
def noB : Rv → Bool
  | .b _ _ => false
  | _ => true
theorem RvsOk.dp {K : PySem.W.Frag} {O : Addr → Prop} {δ δ2 : Dl} {σ : L2.St} {H H2 : Hp} (R : Rep K O δ σ H) (R2 : Rep K O δ2 σ H2) : ∀ {vs : List V} {rs : List Rv}, RvsOk K O σ δ2 H H2 vs rs → rs.all noB = true → DpAll K (hid H2 O) vs (rs.map Rv.as)
  | [], [], _, q => .nil
  | v :: vs, r :: rs, h, q => by
    obtain ⟨⟨δ3, H3, h1, h2⟩, h3⟩ := h
    rw [List.all_cons, Bool.and_eq_true] at q
    refine .cons ?_ (RvsOk.dp R R2 h3 q.2)
    cases r with
    | d x => exact Dp.up h1 h2
    | l xs =>
      obtain ⟨p, vs, rfl, n, e, ha, hr⟩ := h1
      refine Dp.up (.lst (.inl (.inl ?_)) (DpAll.up ha (hid_sub fun a z => .inl z))) h2
      rw [hid_no (R.fresh n)]; exact e
    | b i xs => cases q.1
def wNil : WA := fun δ P => P [] δ
def wCons (w : WE) (u : WA) : WA := fun δ P => w δ fun r δ1 => u δ1 fun rs δ2 => P (r :: rs) δ2
variable {ua : WA}
theorem da_nil : DA X [] wNil := pa_weak pa_nil fun σ H Q ⟨O, δ, P, R0, w, f⟩ => f _ _ _ _ w Stp.refl R0 trivial
theorem da_cons (h : DE X e we) (hr : DA X es ua) (hs : starEach (e :: es) X.env = (false, eval e X.env) :: starEach es X.env := by rfl) : DA X (e :: es) (wCons we ua) := by
  refine pa_weak (pa_cons h hr hs) fun σ H Q ⟨O, δ, P, R0, w, f⟩ => ?_
  refine ⟨O, δ, _, R0, w, fun r1 δ1 v1 H1 w1 s1 R1 k1 => ?_⟩
  refine ⟨O, δ1, _, R1, w1, fun rs δ2 vs H2 w2 s2 R2 k2 => ?_⟩
  exact f _ _ _ _ w2 (s1.trans s2) R2 ⟨⟨δ1, H1, k1, s2.same⟩, RvsOk.back R0 R1 s1 k2⟩
/-- displays -/
def wTup (u : WA) : WE := fun δ P => u δ fun rs δ1 => (rs.all noB = true ∧ rs.length ≤ 1000) ∧ P (.d (.tuple (rs.map Rv.as))) δ1
def wLst (u : WA) : WE := fun δ P => u δ fun rs δ1 => (rs.all noB = true ∧ rs.length ≤ 1000) ∧ P (.l (rs.map Rv.as)) δ1
theorem RvsOk.len {K : PySem.W.Frag} {O : Addr → Prop} {δ2 : Dl} {σ : L2.St} {H H2 : Hp} : ∀ {vs : List V} {rs : List Rv}, RvsOk K O σ δ2 H H2 vs rs → vs.length = rs.length
  | [], [], _ => rfl
  | v :: vs, r :: rs, h => by simp [RvsOk.len h.2]
theorem de_tup {x1} (h : DA X es ua) : DE X (.Tuple es x1 pos) (wTup ua) := by
  refine pe_weak (pe_tup h) fun σ H Q ⟨O, δ, P, R0, w, f⟩ => ?_
  refine ⟨O, δ, _, R0, w, fun rs δ1 vs H1 w1 s1 R1 k1 => ?_⟩
  obtain ⟨⟨q1, q2⟩, w1⟩ := w1
  refine ⟨Nat.le_of_lt (small1000 (by rw [RvsOk.len k1]; exact q2)), fun p hp => ?_⟩
  exact (fin_of R0 s1 R1 f).2.2 _ _ p w1 (RvsOk.dp R0 R1 k1 q1) hp
theorem de_lst (h : DA X es ua) : DE X (.List es pos) (wLst ua) := by
  refine pe_weak (pe_lst h) fun σ H Q ⟨O, δ, P, R0, w, f⟩ => ?_
  refine ⟨O, δ, _, R0, w, fun rs δ1 vs H1 w1 s1 R1 k1 => ?_⟩
  obtain ⟨⟨q1, q2⟩, w1⟩ := w1
  refine ⟨Nat.le_of_lt (small1000 (by rw [RvsOk.len k1]; exact q2)), fun p hp => ?_⟩
  exact (fin_of R0 s1 R1 f).2.1 _ _ p w1 (RvsOk.dp R0 R1 k1 q1) hp

/-! ### calls of what is built in -/
abbrev RCD := List PyData → (Rv → Prop) → Prop
def wCB (R : RCD) (u : WA) : WE := fun δ P => u δ fun rs δ1 => stillAll rs δ1 (R (rs.map Rv.as) fun z => P z δ1)
def CallD (K : PySem.W.Frag) (r : List V → Hp → VK → Prop) (R : RCD) : Prop :=
  ∀ (G H : Hp) (xs : List V) (ds : List PyData) (P : Rv → Prop) (Q : VK), DqAll K G H xs ds → Same G H → R ds P → Fin K G H P Q → r xs H Q
theorem liftCB {K : PySem.W.Frag} {r : List V → Hp → VK → Prop} {R : RCD} (h : CallD K r R) {σ : L2.St} {H : Hp} {Q : VK} (q : lift K (wCB R ua) σ H Q) : tCB r (liftA K ua) σ H Q := by
  obtain ⟨O, δ, P, R0, w, f⟩ := q
  refine ⟨O, δ, _, R0, w, fun rs δ1 vs H1 w1 s1 R1 k1 => ?_⟩
  obtain ⟨dq, w1⟩ := RvsOk.dq R0 R1 k1 w1
  exact h (hid H1 O) H1 vs _ _ _ dq hid_le w1 (fin_of R0 s1 R1 f)
variable {x : Str} {p : Pos} {idn T : String} {r : List V → Hp → VK → Prop} {R : RCD}
theorem de_cb (hc : CallR X (.builtin idn) r) (hd : CallD X.K r R) (hg : Gl X x) (hm : X.mg x = none) (hv : bootBuiltins x = some (.builtin idn)) (ha : DA X (e :: es) ua) (hn : x ≠ "__name__" := by decide) (hdb : (x == ("__debug__" : Str)) = false := by decide)
    (he : starEach (e :: es) X.env = (false, eval e X.env) :: starEach es X.env := by rfl) (hpl : (backTo pos (starEach es X.env)).any (·.1) = false := by rfl) : DE X (.Call (.Name x p) (e :: es) [] pos) (wCB R ua) :=
  pe_weak (pe_callB hc hg hm hv ha hn hdb he hpl) fun _ _ _ => liftCB hd
theorem de_cty (hc : CallR X (.type T) r) (hd : CallD X.K r R) (hg : Gl X x) (hm : X.mg x = none) (hv : bootBuiltins x = some (.type T)) (ha : DA X (e :: es) ua) (hn : x ≠ "__name__" := by decide) (hdb : (x == ("__debug__" : Str)) = false := by decide)
    (he : starEach (e :: es) X.env = (false, eval e X.env) :: starEach es X.env := by rfl) (hpl : (backTo pos (starEach es X.env)).any (·.1) = false := by rfl) : DE X (.Call (.Name x p) (e :: es) [] pos) (wCB R ua) :=
  pe_weak (pe_callTy hc hg hm hv ha hn hdb he hpl) fun _ _ _ => liftCB hd
theorem dq1 {K : PySem.W.Frag} {G H : Hp} {xs : List V} {d : PyData} (h : DqAll K G H xs [d]) : ∃ v, xs = [v] ∧ Dq K G H v d := by
  cases h with
  | cons h1 h2 => cases h2; exact ⟨_, rfl, h1⟩
theorem dq2 {K : PySem.W.Frag} {G H : Hp} {xs : List V} {d e : PyData} (h : DqAll K G H xs [d, e]) : ∃ v u, xs = [v, u] ∧ Dq K G H v d ∧ Dq K G H u e := by
  cases h with
  | cons h1 h2 =>
    obtain ⟨u, rfl, h3⟩ := dq1 h2
    exact ⟨_, _, rfl, h1, h3⟩
/-- len -/
def rLenD : RCD := fun ds P => match ds with
  | [.list xs] => P (.d (.int xs.length))
  | [.tuple xs] => P (.d (.int xs.length))
  | _ => False
theorem cd_len {K : PySem.W.Frag} : CallD K (fun xs H Q => ∃ p ys, xs = [.ref p] ∧ (SqL K H p ys ∨ SqT K H p ys) ∧ Q (.int ys.length) H) rLenD := by
  intro G H xs ds P Q h s r f
  unfold rLenD at r
  split at r
  · obtain ⟨v, rfl, hd⟩ := dq1 h
    obtain ⟨a, ys, rfl, h1, h2⟩ := hd.lst s
    exact ⟨a, ys, rfl, .inl h1, f.1 _ _ r (by rw [da_len h2]; exact .int _)⟩
  · obtain ⟨v, rfl, hd⟩ := dq1 h
    obtain ⟨a, ys, rfl, h1, h2⟩ := hd.tup s
    exact ⟨a, ys, rfl, .inr h1, f.1 _ _ r (by rw [da_len h2]; exact .int _)⟩
  · exact r.elim
theorem de_len (hg : Gl X "len") (hm : X.mg "len" = none) (ha : DA X [e] ua) (he : starEach [e] X.env = (false, eval e X.env) :: starEach [] X.env := by rfl) : DE X (.Call (.Name "len" p) [e] [] pos) (wCB rLenD ua) :=
  de_cb call_len_seq cd_len hg hm PySem.boot_len ha (he := he)
/-- tuple(xs), list(xs) -/
def rTupleD : RCD := fun ds P => match ds with
  | [.list xs] => P (.d (.tuple xs))
  | [.tuple xs] => P (.d (.tuple xs))
  | _ => False
theorem cd_tuple {K : PySem.W.Frag} : CallD K (fun xs H Q => ∃ p ys, xs = [.ref p] ∧ ((SqL K H p ys ∧ ∀ l, H l = none → Q (.ref l) (upd H l (.tup ys))) ∨ (SqT K H p ys ∧ Q (.ref p) H))) rTupleD := by
  intro G H xs ds P Q h s r f
  unfold rTupleD at r
  split at r
  · obtain ⟨v, rfl, hd⟩ := dq1 h
    obtain ⟨a, ys, rfl, h1, h2⟩ := hd.lst s
    exact ⟨a, ys, rfl, .inl ⟨h1, fun l hl => f.2.2 _ _ l r h2 hl⟩⟩
  · obtain ⟨v, rfl, hd⟩ := dq1 h
    obtain ⟨a, ys, e, h1, h2⟩ := hd.tup s
    rcases hd with h | ⟨_, _, _, _, q, _⟩
    · subst e
      exact ⟨a, ys, rfl, .inr ⟨h1, f.1 _ _ r h⟩⟩
    · cases q
  · exact r.elim
theorem de_tuple (hg : Gl X "tuple") (hm : X.mg "tuple" = none) (ha : DA X [e] ua) (he : starEach [e] X.env = (false, eval e X.env) :: starEach [] X.env := by rfl) : DE X (.Call (.Name "tuple" p) [e] [] pos) (wCB rTupleD ua) :=
  de_cty call_tuple_of cd_tuple hg hm (by decide +kernel) ha (he := he)
def rListD : RCD := fun ds P => match ds with
  | [.list xs] => P (.l xs)
  | [.tuple xs] => P (.l xs)
  | _ => False
theorem cd_list {K : PySem.W.Frag} : CallD K (fun xs H Q => ∃ p ys, xs = [.ref p] ∧ (SqL K H p ys ∨ SqT K H p ys) ∧ ∀ l, H l = none → Q (.ref l) (upd H l (.lst ys))) rListD := by
  intro G H xs ds P Q h s r f
  unfold rListD at r
  split at r
  · obtain ⟨v, rfl, hd⟩ := dq1 h
    obtain ⟨a, ys, rfl, h1, h2⟩ := hd.lst s
    exact ⟨a, ys, rfl, .inl h1, fun l hl => f.2.1 _ _ l r h2 hl⟩
  · obtain ⟨v, rfl, hd⟩ := dq1 h
    obtain ⟨a, ys, rfl, h1, h2⟩ := hd.tup s
    exact ⟨a, ys, rfl, .inr h1, fun l hl => f.2.1 _ _ l r h2 hl⟩
  · exact r.elim
theorem de_list (hg : Gl X "list") (hm : X.mg "list" = none) (ha : DA X [e] ua) (he : starEach [e] X.env = (false, eval e X.env) :: starEach [] X.env := by rfl) : DE X (.Call (.Name "list" p) [e] [] pos) (wCB rListD ua) :=
  de_cty call_list_of cd_list hg hm (by decide +kernel) ha (he := he)
/-- max, min of two -/
def rMax2D : RCD := fun ds P => match ds with
  | [.int i, .int j] => P (.d (.int (if j > i then j else i)))
  | _ => False
def rMin2D : RCD := fun ds P => match ds with
  | [.int i, .int j] => P (.d (.int (if j < i then j else i)))
  | _ => False
theorem cd_max2 {K : PySem.W.Frag} : CallD K (fun xs H Q => ∃ i j, xs = [.int i, .int j] ∧ Q (.int (if j > i then j else i)) H) rMax2D := by
  intro G H xs ds P Q h s r f
  unfold rMax2D at r
  split at r
  · obtain ⟨v, u, rfl, h1, h2⟩ := dq2 h
    exact ⟨_, _, by rw [h1.int, h2.int], f.1 _ _ r (.int _)⟩
  · exact r.elim
theorem cd_min2 {K : PySem.W.Frag} : CallD K (fun xs H Q => ∃ i j, xs = [.int i, .int j] ∧ Q (.int (if j < i then j else i)) H) rMin2D := by
  intro G H xs ds P Q h s r f
  unfold rMin2D at r
  split at r
  · obtain ⟨v, u, rfl, h1, h2⟩ := dq2 h
    exact ⟨_, _, by rw [h1.int, h2.int], f.1 _ _ r (.int _)⟩
  · exact r.elim
theorem de_max2 (hc : X.calm = true) (hg : Gl X "max") (hm : X.mg "max" = none) (ha : DA X [a, b] ua) (he : starEach [a, b] X.env = (false, eval a X.env) :: starEach [b] X.env := by rfl) (hpl : (backTo pos (starEach [b] X.env)).any (·.1) = false := by rfl) : DE X (.Call (.Name "max" p) [a, b] [] pos) (wCB rMax2D ua) :=
  de_cb (call_max2 hc) cd_max2 hg hm (by decide +kernel) ha (he := he) (hpl := hpl)
theorem de_min2 (hc : X.calm = true) (hg : Gl X "min") (hm : X.mg "min" = none) (ha : DA X [a, b] ua) (he : starEach [a, b] X.env = (false, eval a X.env) :: starEach [b] X.env := by rfl) (hpl : (backTo pos (starEach [b] X.env)).any (·.1) = false := by rfl) : DE X (.Call (.Name "min" p) [a, b] [] pos) (wCB rMin2D ua) :=
  de_cb (call_min2 hc) cd_min2 hg hm (by decide +kernel) ha (he := he) (hpl := hpl)
/-- all, any of a list of boolsD -/
def boolsD : List PyData → Option (List Bool)
  | [] => some []
  | .bool b :: r => (boolsD r).map (b :: ·)
  | _ => none
theorem bools_dp {K : PySem.W.Frag} {G : Hp} : ∀ {vs : List V} {ds : List PyData} {bs : List Bool}, DpAll K G vs ds → boolsD ds = some bs → vs = bs.map V.bl
  | [], _, bs, h, e => by cases h; cases e; rfl
  | v :: vs, _, bs, h, e => by
    cases h with
    | cons h1 h2 =>
      rename_i d ds
      cases d <;> first | (unfold boolsD at e; cases e; done) | skip
      rename_i b
      unfold boolsD at e
      cases q : boolsD ds with
      | none => rw [q] at e; cases e
      | some cs =>
        rw [q] at e
        cases e
        cases h1
        rw [bools_dp h2 q]
        rfl
def rAllD : RCD := fun ds P => match ds with
  | [.list xs] => match boolsD xs with
    | some bs => P (.d (.bool (bs.all id)))
    | none => False
  | _ => False
def rAnyD : RCD := fun ds P => match ds with
  | [.list xs] => match boolsD xs with
    | some bs => P (.d (.bool (bs.any id)))
    | none => False
  | _ => False
theorem cd_all {K : PySem.W.Frag} : CallD K (rAll K) rAllD := by
  intro G H xs ds P Q h s r f
  unfold rAllD at r
  split at r
  · split at r
    · rename_i bs e
      obtain ⟨v, rfl, hd⟩ := dq1 h
      obtain ⟨a, ys, rfl, h1, h2⟩ := hd.lst s
      have := bools_dp h2 e
      subst this
      exact ⟨a, bs, rfl, h1, f.1 _ _ r (.bl _)⟩
    · exact r.elim
  · exact r.elim
theorem cd_any {K : PySem.W.Frag} : CallD K (rAny K) rAnyD := by
  intro G H xs ds P Q h s r f
  unfold rAnyD at r
  split at r
  · split at r
    · rename_i bs e
      obtain ⟨v, rfl, hd⟩ := dq1 h
      obtain ⟨a, ys, rfl, h1, h2⟩ := hd.lst s
      have := bools_dp h2 e
      subst this
      exact ⟨a, bs, rfl, h1, f.1 _ _ r (.bl _)⟩
    · exact r.elim
  · exact r.elim
theorem de_all (hc : X.calm = true) (hg : Gl X "all") (hm : X.mg "all" = none) (ha : DA X [e] ua) (he : starEach [e] X.env = (false, eval e X.env) :: starEach [] X.env := by rfl) : DE X (.Call (.Name "all" p) [e] [] pos) (wCB rAllD ua) :=
  de_cb (cr_all hc) cd_all hg hm (by decide +kernel) ha (he := he)
theorem de_any (hc : X.calm = true) (hg : Gl X "any") (hm : X.mg "any" = none) (ha : DA X [e] ua) (he : starEach [e] X.env = (false, eval e X.env) :: starEach [] X.env := by rfl) : DE X (.Call (.Name "any" p) [e] [] pos) (wCB rAnyD ua) :=
  de_cb (cr_any hc) cd_any hg hm (by decide +kernel) ha (he := he)
/-- sorted of intsD -/
def intsD : List PyData → Option (List Int)
  | [] => some []
  | .int b :: r => (intsD r).map (b :: ·)
  | _ => none
theorem ints_dp {K : PySem.W.Frag} {G : Hp} : ∀ {vs : List V} {ds : List PyData} {bs : List Int}, DpAll K G vs ds → intsD ds = some bs → vs = bs.map V.int
  | [], _, bs, h, e => by cases h; cases e; rfl
  | v :: vs, _, bs, h, e => by
    cases h with
    | cons h1 h2 =>
      rename_i d ds
      cases d <;> first | (unfold intsD at e; cases e; done) | skip
      rename_i b
      unfold intsD at e
      cases q : intsD ds with
      | none => rw [q] at e; cases e
      | some cs =>
        rw [q] at e
        cases e
        cases h1
        rw [ints_dp h2 q]
        rfl
theorem dp_ints {K : PySem.W.Frag} {G : Hp} : ∀ (bs : List Int), DpAll K G (bs.map V.int) (bs.map PyData.int)
  | [] => .nil
  | b :: bs => .cons (.int b) (dp_ints bs)
theorem ints_map : ∀ (bs : List Int), intsD (bs.map PyData.int) = some bs
  | [] => rfl
  | b :: bs => by show (intsD (bs.map PyData.int)).map (b :: ·) = _; rw [ints_map bs]; rfl
theorem bools_map : ∀ (bs : List Bool), boolsD (bs.map PyData.bool) = some bs
  | [] => rfl
  | b :: bs => by show (boolsD (bs.map PyData.bool)).map (b :: ·) = _; rw [bools_map bs]; rfl
def rSortedD : RCD := fun ds P => match ds with
  | [.list xs] => match intsD xs with
    | some ns => ∀ ms : List Int, ms.Perm ns → ms.Pairwise (· ≤ ·) → P (.l (ms.map PyData.int))
    | none => False
  | _ => False
theorem cd_sorted {K : PySem.W.Frag} : CallD K (rSortedI K) rSortedD := by
  intro G H xs ds P Q h s r f
  unfold rSortedD at r
  split at r
  · split at r
    · rename_i bs e
      obtain ⟨v, rfl, hd⟩ := dq1 h
      obtain ⟨a, ys, rfl, h1, h2⟩ := hd.lst s
      have := ints_dp h2 e
      subst this
      exact ⟨a, bs, rfl, h1, fun ns p hp hs hn => f.2.1 _ _ p (r ns hp hs) (dp_ints ns) hn⟩
    · exact r.elim
  · exact r.elim
theorem de_sorted (hg : Gl X "sorted") (hm : X.mg "sorted" = none) (ha : DA X [e] ua) (he : starEach [e] X.env = (false, eval e X.env) :: starEach [] X.env := by rfl) : DE X (.Call (.Name "sorted" p) [e] [] pos) (wCB rSortedD ua) :=
  de_cb cr_sortedI cd_sorted hg hm (by decide +kernel) ha (he := he)
end
end Dw

namespace Dw
open PySem PySem.Spec PyProof.Rows L2

/-! ### a def's promise where no repr is under way around it -/
structure FnG (P : Program) (w : World) (K : PySem.W.Frag) (mg : Str → Option Value) (base : Heap) (CX : CXT) (k : Nat) (f : Addr) (fd : FuncData) (ps : List Str) (sp : Sp) : Prop where
  len : ∀ ys G Q E, sp ys G Q E → ys.length = ps.length
  run : ∀ (A : Around) (outer : List Env) (s : Shared) (G : Hp) (args : Args) (us : List Value) (ys : List V) (Q : VK) (E : XK), A.guards = some [] → Room k A →
    Env0 P w K mg base A outer s G → BindsTo s fd args (ps.zip us) → Vals ys us → sp ys G Q E → codeAny (model P w) A (.call (.ref f) args) (CR CX outer P w G s Q E) s
theorem FnG.mono {P : Program} {w : World} {K : PySem.W.Frag} {mg : Str → Option Value} {base : Heap} {CX : CXT} {j k : Nat} {f : Addr} {fd : FuncData} {ps : List Str} {sp : Sp} (F : FnG P w K mg base CX j f fd ps sp) (h : j ≤ k) :
    FnG P w K mg base CX k f fd ps sp := ⟨F.len, fun A o s G ar us ys Q E g hr => F.run A o s G ar us ys Q E g (hr.mono h)⟩

/-- from the body, CX0 -/
theorem fnG_of {P : Program} {w : World} {K : PySem.W.Frag} {mg : Str → Option Value} {base : Heap} {x qual : Str} {st : Stmt} {f : Addr} {fd : FuncData} {N ps : List Str} {k : Nat} {sp : Sp} (F : Fun K x qual st f fd) (S : FnScope N ps (defScope st)) (len : ∀ ys G Q E, sp ys G Q E → ys.length = ps.length)
    (hbody : ∀ (cdv : Value) (A : Around) (outer : List Env) (s : Shared) (G : Hp) (ys : List V) (Q : VK) (E : XK), A.guards = some [] → Room k (A.deeper (envOfC qual (defScope st) s.heap.objs.size f cdv)) → sp ys G Q E →
      ∃ t, PSs (cxOf CX0 P w K mg base N qual (defScope st) f cdv A outer s G E).nox (defBody st) t ∧ t { nx := fun _ G' => Q .non G', rt := Q } (start N ys) G) : FnG P w K mg base CX0 (k + 1) f fd ps sp := by
  obtain ⟨oc, od, kV, doc, pm, an, cdv, ct, osl, rfl, lk, hcd⟩ := F.ex
  refine ⟨len, fun A outer s G args us ys Q E g0 room e0 hb r pr => ?_⟩
  have ll := len _ _ _ _ pr
  have kin : K.In s.heap := e0.mod.kin.keeps fun b o e => (e0.bs b o e).1
  have nol : s.heap.NoLimit := e0.mod.nolimit.keeps fun b o e => (e0.bs b o e).1
  have kinds : ∀ y ∈ ps.zip us, (defScope st).names.lookup y.1 = some .local ∨ ((defScope st).names.lookup y.1 = some .cell ∧ ((cellsFrom (s.heap.objs.size + 1) (defScope st).names []).lookup y.1).isSome = true) := by
    rintro ⟨n, v⟩ hy
    have hp := S.par n (List.of_mem_zip hy).1
    exact hp.imp id fun q => ⟨q, PySem.W.cellsFrom_some _ _ _ (.inl q)⟩
  refine codeAny_call_function room.depth (kin _ _ lk) rfl S.co S.gen rfl (PySem.W.codeRec_of kin hcd) (hb _ _ _ _ ?_)
  refine wpAny_newFunctionEnv_cells S.kind kinds fun env ee s1 y => ?_
  subst ee
  refine ⟨nol.keeps y.toInCall.keep, codeAny_func ?_⟩
  obtain ⟨t, ht, hq⟩ := hbody cdv A outer s G ys Q E g0 (room.deeper _) pr
  have I : Inv (cxOf CX0 P w K mg base N qual (defScope st) f cdv A outer s G E) [] (start N ys) G s1 := inv_start S room.hd e0 ll r y
  refine wpAny_mono (ht.nox.run [] s1 (start N ys) G _ I hq) (fun fl s' hs => ?_) fun _ _ z => z
  have done : ∀ {τ : L2.St} {G' : Hp} {v : V} {u : Value}, Inv (cxOf CX0 P w K mg base N qual (defScope st) f cdv A outer s G E) [] τ G' s' → RelV v u → Q v G' → CE outer P w G s Q u s' :=
    fun J rv q => ⟨_, _, J.os, J.bare, J.base, J.hok, rv, q⟩
  cases fl with
  | ret u => obtain ⟨v, τ, G', J, rv, q⟩ := hs; exact done J rv q
  | next => obtain ⟨τ, G', J, q⟩ := hs; exact done (v := V.non) (u := Value.none) J rfl q
  | brk => obtain ⟨τ, G', J, q⟩ := hs; exact q.elim
  | cont => obtain ⟨τ, G', J, q⟩ := hs; exact q.elim

section
variable {X : Cx} {CX : CXT} {k : Nat} {f : Addr} {fd : FuncData} {ps : List Str} {sp : Sp} {E : XK} {x : Str} {p pos : Pos} {e : Expr} {es : List Expr} {t : TA}
theorem runG {pins : List (Addr × Obj)} {σ : L2.St} {G : Hp} {s : Shared} {Q : VK} {us : List Value} {ys : List V} (F : FnG X.prog X.w X.K X.mg X.base CX k f fd ps sp) (g0 : X.A.guards = some []) (room : Room k X.A) (hb : Binds X.K fd ps []) (hx : Passes CX X E)
    (I : Inv X pins σ G s) (r : Vals ys us) (q : sp ys G Q E) : wpAny (model X.prog X.w) X.A (call (.ref f) us) (EP X pins σ Q) X.xe s := by
  have hl : (us ++ []).length = ps.length := by rw [List.append_nil, ← r.length]; exact F.len _ _ _ _ q
  have bt := hb s us I.kIn hl
  rw [List.append_nil] at bt
  refine wpAny_call (codeAny_mono (F.run X.A X.stack s G ⟨us, []⟩ us ys Q E g0 room I.env0 bt r q) fun res s' hq => ?_)
  cases res with
  | error er => exact hx pins σ G s er s' I hq
  | ok fl => cases fl <;> first | exact I.after hq | exact False.elim hq
theorem pe_callG (F : FnG X.prog X.w X.K X.mg X.base CX k f fd ps sp) (g0 : X.A.guards = some []) (room : Room k X.A) (hg : Gl X x) (hm : X.mg x = some (.ref f)) (hk : PySem.W.keepIn X.K (.ref f) = true) (hb : Binds X.K fd ps []) (hx : Passes CX X E)
    (ha : PA X (e :: es) t) (hdb : (x == ("__debug__" : Str)) = false := by decide) (he : starEach (e :: es) X.env = (false, eval e X.env) :: starEach es X.env := by rfl) (hpl : (backTo pos (starEach es X.env)).any (·.1) = false := by rfl) :
    PE X (.Call (.Name x p) (e :: es) [] pos) (fun σ G Q => t σ G fun ys G1 => sp ys G1 Q E) := by
  refine ⟨fun pins s σ G Q I q => wpAny_Call_Name_kw (ld_glob I hg hm ?_ hdb)⟩
  exact PySem.W.callWith_K (h₀ := X.base) I.ok.mod.kin hk (thn (ha.run pos pins s σ G _ I q) fun us s1 ⟨ys, G1, I1, r, q1⟩ => ⟨I1.kIn, runG F g0 room hb hx I1 r q1⟩) he hpl
end

/-! ### the law's own call, at the outermost place -/
theorem lawG {P : Program} {w : World} {K : PySem.W.Frag} {mg mb : Str → Option Value} {k : Nat} {fa a : Addr} {fd : FuncData} {x : Str} {sp : Sp} {s₁ : Shared} {vs : List Value} {ns : List Int}
    (kin : K.In s₁.heap) (hns : s₁.heap.Ns mainGlobals mg) (hb : s₁.heap.Ns builtinsNs mb) (hbb : ∀ x : Str, x ≠ "__name__" → mb x = bootBuiltins x) (lim : s₁.heap.NoLimit) (hgens : s₁.gens = #[])
    (ha : s₁.heap.get? a = some { cls := .type "list", data := .seq vs.toArray }) (hi : IntsAre vs ns) (hl : ns.length ≤ sizeLine) (room : Room k callerA)
    (F : ∀ base : Heap, K.In base → base.Ns mainGlobals mg → FnG P w K mg base CX0 k fa fd [x] sp) (hbind : ∀ (s : Shared) (u : Value), BindsTo s fd ⟨[u], []⟩ [(x, u)])
    (hsp : ∀ G : Hp, Only G → SqL K G a (ns.map V.int) → sp [.ref a] G (fun v _ => v = .bl true) fun _ _ _ => False) :
    codeAny (model P w) callerA (.call (.ref fa) ⟨[.ref a], []⟩) (fun r s' => r = .ok (.ret (.bool true)) ∧ OldK s₁.heap s'.heap ∧ s'.os = s₁.os ∧ AllBare s'.gens) s₁ := by
  have rv := vals_ints hi
  have main : ∀ G : Hp, Only G → SqL K G a (ns.map V.int) → HOk P w G s₁.heap → (∀ b, G b ≠ none → b = a) → (G a ≠ none → K.lookup a = none) →
      codeAny (model P w) callerA (.call (.ref fa) ⟨[.ref a], []⟩) (fun r s' => r = .ok (.ret (.bool true)) ∧ OldK s₁.heap s'.heap ∧ s'.os = s₁.os ∧ AllBare s'.gens) s₁ := by
    intro G only sq hok onlyA notK
    have below : ∀ {b : Addr} {o : Obj}, s₁.heap.get? b = some o → G b = none → (hidT s₁.heap G).get? b = some o := fun e n => hidT_get e n
    have free : ∀ {b : Addr} {o : Obj} {es : Array DictEntry} {ep : Nat}, s₁.heap.get? b = some o → o.data = .dict es ep → G b = none := by
      intro b o es ep e d
      cases q : G b with
      | none => rfl
      | some u =>
        obtain rfl : b = a := onlyA b (by rw [q]; exact fun z => nomatch z)
        rw [ha] at e
        cases e
        exact absurd d (fun z => nomatch z)
    have spaces : ∀ {b : Addr} {m : Str → Option Value}, s₁.heap.Ns b m → (hidT s₁.heap G).Ns b m := by
      rintro b m ⟨o, es, ep, e, d, r⟩
      exact ⟨o, es, ep, below e (free e d), d, r⟩
    have kinB : K.In (hidT s₁.heap G) := by
      intro b o e
      refine below (kin b o e) ?_
      cases q : G b with
      | none => rfl
      | some u =>
        obtain rfl : b = a := onlyA b (by rw [q]; exact fun z => nomatch z)
        rw [notK (by rw [q]; exact fun z => nomatch z)] at e
        cases e
    have hM : Mod K mg (hidT s₁.heap G) := ⟨kinB, spaces hns, ⟨mb, spaces hb, hbb⟩, let ⟨mc, z1, z2⟩ := lim; ⟨mc, spaces z1, z2⟩⟩
    have e0 : Env0 P w K mg (hidT s₁.heap G) callerA [] s₁ G := ⟨rfl, hM, fun _ _ e => of_hidT e, Nat.le_of_eq (hidT_size _ _), trivial, (fun _ z => absurd z (List.not_mem_nil)), hok, .of_eq hgens⟩
    have go := (F _ kinB (spaces hns)).run callerA [] s₁ G ⟨[.ref a], []⟩ [.ref a] [.ref a] _ _ rfl room e0 (hbind s₁ (.ref a)) (.cons rfl .nil) (hsp G only sq)
    refine codeAny_mono go fun r s' z => ?_
    cases r with
    | error e => exact z.elim
    | ok fl =>
      cases fl <;> first | exact False.elim z | skip
      rename_i u
      obtain ⟨v, G', os, bare, un, hok', r', q⟩ := z
      obtain rfl : v = .bl true := q
      obtain rfl : u = Value.bool true := r'
      refine ⟨rfl, OldK.of_keep fun b o e => ?_, os, bare⟩
      cases q : G b with
      | none => exact un.keep b o e q (fun z => nomatch z) (fun z => nomatch z)
      | some y =>
        rcases only b with z | ⟨ob, xs, z⟩
        · rw [q] at z; cases z
        · have e1 := (hok b _ z).1
          have e2 := (hok' b _ (un.frzs b ob _ z)).1
          rw [e] at e1; cases e1
          exact e2
  cases hk : K.lookup a with
  | some o =>
    have e := kin a o hk
    rw [ha] at e
    cases e
    refine main (fun _ => none) (fun _ => .inl rfl) (.inr ⟨_, vs.toArray, _, hk, rfl, rfl, rfl, ?_, by simpa using rv⟩) (fun _ _ z => nomatch z) (fun _ z => absurd rfl z) fun z => absurd rfl z
    rw [List.size_toArray, hi.length]; exact hl
  | none =>
    refine main (fun b => if b = a then some (.frz { cls := .type "list", data := .seq vs.toArray } (.lst (ns.map V.int))) else none) (fun b => ?_) (.inl (.inr ⟨_, if_pos rfl⟩)) (fun b u z => ?_) (fun b z => ?_) fun _ => hk
    · by_cases q : b = a
      · exact .inr ⟨_, _, if_pos q⟩
      · exact .inl (if_neg q)
    · by_cases q : b = a
      · have z1 := (if_pos q).symm.trans z
        cases z1
        subst q
        exact ⟨ha, by rw [List.length_map]; exact hl, vs, _, rv, ha⟩
      · have z1 := (if_neg q).symm.trans z
        cases z1
    · by_cases q : b = a
      · exact q
      · exact absurd (if_neg q) z
theorem walkG {l : PySem.W.OpenLaw} {n k : Nat} {q : Program} {loose : List Str} {XP : (Str → Option Value) → Heap → Prop} {YP : World → Heap → Prop} {d : DefRec} {K : Params → PySem.W.Frag} {sp : PySem.W.Frag → Sp} {x : Str}
    (hn : l.most = some n) (hn2 : n ≤ sizeLine) (hdf : d.params.defaults = []) (room : Room k callerA) (hY : ∀ (w : World) (h : Heap), YP w h → (K w.params).In h)
    (F : ∀ (w : World) (mg : Str → Option Value) (fa : Addr) (h : Heap), (K w.params).In h → h.Ns mainGlobals mg → mg d.name = some (.ref fa) →
      ∃ fd : FuncData, (∀ (s : Shared) (u : Value), BindsTo s fd ⟨[u], []⟩ [(x, u)]) ∧ ∀ base : Heap, (K w.params).In base → base.Ns mainGlobals mg → FnG l.prog w (K w.params) mg base CX0 k fa fd [x] (sp (K w.params)))
    (hsp : ∀ (K : PySem.W.Frag) (G : Hp) (a : Addr) (ns : List Int), ns.length ≤ n → Only G → SqL K G a (ns.map V.int) → sp K [.ref a] G (fun v _ => v = .bl true) fun _ _ _ => False) :
    PySem.W.WalkO q loose XP YP l.row.toRowW d [] (fun f vs => PySem.call f vs) := by
  refine Att.attach_call hn hdf fun w s₀ s₁ mg mb fa o pm cd doc a vs ns G Y ho hd hcd hmg hobj hints hlen hg => ?_
  obtain ⟨fd, hb, hF⟩ := F w mg fa _ (hY w _ Y) G.T.g hmg
  exact lawG (hY w _ Y) G.T.g G.T.b G.T.builtins G.T.nolimit hg hobj hints (Nat.le_trans hlen hn2) room hF hb fun H hO hS => hsp _ H a ns hlen hO hS
end Dw

namespace Dw
open PySem PySem.Spec PyProof.Rows L2
section
variable {X : Cx} {a b c e : Expr} {wa wb wc we : WE} {pos p p2 : Pos} {es rest : List Expr} {ua : WA}

/-! ### repr -/
def showOk (d : PyData) : Prop := d.showable = true ∧ d.hasDict = false ∧ d.depth ≤ 64 ∧ d.shown.length ≤ sizeLine
theorem call_reprD (g0 : X.A.guards = some []) (hu : X.A.units + 80 < cLine) : CallR X (.builtin "repr") (fun xs H Q => ∃ v d, xs = [v] ∧ Dp X.K H v d ∧ showOk d ∧ Q (.str d.shown) H) := by
  intro pins s σ H xs us Q I r h
  obtain ⟨v, d, rfl, hd, ⟨h1, h2, h3, h4⟩, q⟩ := h
  obtain ⟨u, rfl, ru⟩ := vals1 r
  obtain ⟨as, rd⟩ := L2.Dp.reads I d v u (dp_l2 d v hd h2) ru
  have onRef : ∀ {a : Addr}, u = .ref a → wpAny (model X.prog X.w) X.A (call (.builtin "repr") [u]) (EP X pins σ Q) X.xe s := by
    rintro a rfl
    refine repr_of_reads' rd h1 (PyData.noDict_hsm h2) g0 (by omega) (fun _ _ z => z) (fun h' t tk hk => ⟨.str _, H, I.kept hk, ⟨_, rfl⟩, q⟩) h4
  cases hd with
  | non => cases ru; exact PySem.P.repr_of_none ⟨.str _, H, I.tok _, ⟨_, rfl⟩, q⟩
  | bl b => cases ru; exact PySem.P.repr_of_bool ⟨.str _, H, I.tok _, ⟨_, rfl⟩, q⟩
  | int i =>
    obtain ⟨t, rfl⟩ := ru
    have z : i.natAbs.log2 < 1920 := of_decide_eq_true (by simpa [PyData.showable] using h1)
    exact PySem.P.repr_of_int z ⟨.str _, H, I.tok _, ⟨_, rfl⟩, q⟩
  | str x =>
    obtain ⟨t, rfl⟩ := ru
    exact PySem.P.repr_of_str (show EP X pins σ Q _ _ from ⟨.str _, H, I.tok _, ⟨_, rfl⟩, q⟩) h4
  | lst hs ha => cases ru; exact onRef rfl
  | tup hs ha => cases ru; exact onRef rfl
  | dk hs => cases ru; exact onRef rfl
  | dt hs => cases ru; exact onRef rfl
  | e0 hs => cases ru; exact onRef rfl
def rReprD : RCD := fun ds P => match ds with
  | [d] => showOk d ∧ P (.d (.str d.shown))
  | _ => False
theorem cd_repr {K : PySem.W.Frag} : CallD K (fun xs H Q => ∃ v d, xs = [v] ∧ Dp K H v d ∧ showOk d ∧ Q (.str d.shown) H) rReprD := by
  intro G H xs ds P Q h s r f
  unfold rReprD at r
  split at r
  · obtain ⟨v, rfl, hd⟩ := dq1 h
    exact ⟨v, _, rfl, hd.dp s, r.1, f.1 _ _ r.2 (.str _)⟩
  · exact r.elim
theorem de_repr (g0 : X.A.guards = some []) (hu : X.A.units + 80 < cLine) (hg : Gl X "repr") (hm : X.mg "repr" = none) (ha : DA X [e] ua) (he : starEach [e] X.env = (false, eval e X.env) :: starEach [] X.env := by rfl) : DE X (.Call (.Name "repr" p) [e] [] pos) (wCB rReprD ua) :=
  de_cb (call_reprD g0 hu) cd_repr hg hm (by decide +kernel) ha (he := he)

/-! ### isinstance with a built-in class -/
def tyD : PyData → Option String
  | .none => some "NoneType"
  | .bool _ => some "bool"
  | .int _ => some "int"
  | .str _ => some "str"
  | .list _ => some "list"
  | .tuple _ => some "tuple"
  | .dict _ => none
theorem ty_of {K : PySem.W.Frag} {H : Hp} {v : V} {d : PyData} {t : String} (h : Dp K H v d) (e : tyD d = some t) : TyX K H v (.type t) := by
  cases h with
  | non => cases e; exact .base .non
  | bl b => cases e; exact .base (.bl b)
  | int b => cases e; exact .base (.int b)
  | str b => cases e; exact .base (.str b)
  | lst hs ha =>
    cases e
    rcases hs with (h | ⟨o, h⟩) | ⟨o, its, n, h, hc, _⟩
    · exact .base (.lst h)
    · exact .base (.frz h)
    · exact .kList h hc
  | tup hs ha => cases e; exact .base (.tup hs)
  | dk h => cases e
  | dt h => cases e
  | e0 h => cases e
def wIsi (f : PyData → Option Bool) (w : WE) : WE := fun δ P => w δ fun r δ1 => match f r.as with
  | some k => P (.d (.bool k)) δ1
  | none => False
def IsF (T : String) (f : PyData → Option Bool) : Prop := ∀ d k, f d = some k → ∃ t, tyD d = some t ∧ kitB t T = some k
theorem de_isi {T : String} {tx : Str} {f : PyData → Option Bool} (hf : IsF T f) (hg : Gl X "isinstance") (hm : X.mg "isinstance" = none) (he : DE X e we) (hgT : Gl X tx) (hmT : X.mg tx = none) (hv : bootBuiltins tx = some (.type T))
    (h1 : starEach [e, .Name tx p2] X.env = (false, eval e X.env) :: starEach [.Name tx p2] X.env := by rfl) (h2 : starEach [.Name tx p2] X.env = (false, eval (.Name tx p2) X.env) :: starEach [] X.env := by rfl) (hpl : (backTo pos (starEach [.Name tx p2] X.env)).any (·.1) = false := by rfl)
    (hn : tx ≠ "__name__" := by decide) (hd : (tx == ("__debug__" : Str)) = false := by decide) : DE X (.Call (.Name "isinstance" p) [e, .Name tx p2] [] pos) (wIsi f we) := by
  refine pe_weak (pe_callB call_isi hg hm (by decide +kernel) (pa_cons he (pa_cons (pe_bltn hgT hmT hv (v := .ty T) rfl hn hd) pa_nil h2) h1) (he := h1) (hpl := hpl)) fun σ H Q ⟨O, δ, P, R0, w, g⟩ => ?_
  refine ⟨O, δ, _, R0, w, fun r δ1 v H1 w1 s1 R1 k1 => ?_⟩
  have dq := (held0 R0 k1 R1).dp hid_le
  split at w1
  · rename_i k q
    obtain ⟨t, q1, q2⟩ := hf _ _ q
    exact ⟨v, .ty T, .type t, .type T, k, rfl, .ty T, ty_of dq q1, kit_ty q2, g _ _ _ _ w1 s1 R1 (.bl k)⟩
  · exact w1.elim
def isIntD : PyData → Option Bool
  | .int _ => some true
  | .bool _ => some true
  | .dict _ => none
  | _ => some false
def isBoolD : PyData → Option Bool
  | .bool _ => some true
  | .dict _ => none
  | _ => some false
def isTupD : PyData → Option Bool
  | .tuple _ => some true
  | .dict _ => none
  | _ => some false
def isStrD : PyData → Option Bool
  | .str _ => some true
  | .dict _ => none
  | _ => some false
theorem isf_int : IsF "int" isIntD := by
  intro d k e
  cases d <;> cases e <;> exact ⟨_, rfl, by decide +kernel⟩
theorem isf_bool : IsF "bool" isBoolD := by
  intro d k e
  cases d <;> cases e <;> exact ⟨_, rfl, by decide +kernel⟩
theorem isf_tuple : IsF "tuple" isTupD := by
  intro d k e
  cases d <;> cases e <;> exact ⟨_, rfl, by decide +kernel⟩
theorem isf_str : IsF "str" isStrD := by
  intro d k e
  cases d <;> cases e <;> exact ⟨_, rfl, by decide +kernel⟩
theorem boot_intT : bootBuiltins "int" = some (.type "int") := by decide +kernel
theorem boot_boolT : bootBuiltins "bool" = some (.type "bool") := by decide +kernel
theorem boot_tupleT : bootBuiltins "tuple" = some (.type "tuple") := by decide +kernel
theorem boot_strT : bootBuiltins "str" = some (.type "str") := by decide +kernel

/-! ### slices -/
abbrev WO := Dl → (Option Int → Dl → Prop) → Prop
def liftO (K : PySem.W.Frag) (w : WO) : TO := fun σ H Q => ∃ O δ P, Rep K O δ σ H ∧ w δ P ∧ ∀ r δ' H', P r δ' → Stp O δ δ' σ H H' → Rep K O δ' σ H' → Q r H'
def DO (X : Cx) (e : Option Expr) (w : WO) : Prop := PO X e (liftO X.K w)
theorem po_weak {o : Option Expr} {t t' : TO} (h : PO X o t) (f : ∀ σ H Q, t' σ H Q → t σ H Q) : PO X o t' := ⟨fun pins s σ H Q I q => h.run pins s σ H Q I (f σ H Q q)⟩
def wNo : WO := fun δ P => P none δ
def wPart (w : WE) : WO := fun δ P => w δ fun r δ1 => match r with
  | .d (.int i) => P (some i) δ1
  | _ => False
theorem do_none : DO X none wNo := po_weak po_none fun σ H Q ⟨O, δ, P, R0, w, f⟩ => f _ _ _ w Stp.refl R0
theorem do_some (h : DE X e we) : DO X (some e) (wPart we) := by
  refine po_weak (po_some h) fun σ H Q ⟨O, δ, P, R0, w, f⟩ => ?_
  refine ⟨O, δ, _, R0, w, fun r δ1 v H1 w1 s1 R1 k1 => ?_⟩
  cases r with
  | l xs => exact w1.elim
  | b i xs => exact w1.elim
  | d x =>
    cases x <;> first | exact False.elim w1 | skip
    rename_i k
    have k1 : Dp X.K (hid H1 O) v (.int k) := k1
    cases k1
    exact ⟨k, rfl, f _ _ _ w1 s1 R1⟩
def cutD (xs : List PyData) (lo hi : Option Int) : List PyData := (xs.drop (HT.sIx xs.length 0 lo)).take (HT.sIx xs.length xs.length hi - HT.sIx xs.length 0 lo)
def wSlice (w : WE) (wl wh : WO) : WE := fun δ P => w δ fun r δ1 => wl δ1 fun lo δ2 => wh δ2 fun hi δ3 => still r δ3 (match r.as with
  | .tuple xs => P (.d (.tuple (cutD xs lo hi))) δ3
  | .list xs => P (.l (cutD xs lo hi)) δ3
  | _ => False)
theorem da_cut {K : PySem.W.Frag} {G : Hp} {vs : List V} {ds : List PyData} (h : DpAll K G vs ds) (lo hi : Option Int) : DpAll K G (cutV vs lo hi) (cutD ds lo hi) := by
  unfold cutV cutD
  rw [da_len h]
  exact da_take _ (da_drop _ h)
theorem cut_whole {α : Type} (xs : List α) {lo hi : Option Int} (h : HT.sIx xs.length 0 lo = 0 ∧ HT.sIx xs.length xs.length hi = xs.length) : (xs.drop (HT.sIx xs.length 0 lo)).take (HT.sIx xs.length xs.length hi - HT.sIx xs.length 0 lo) = xs := by
  rw [h.1, h.2, List.drop_zero, Nat.sub_zero, List.take_length]
theorem de_slice {lo hi : Option Expr} {wl wh : WO} (h : DE X e we) (hl : DO X lo wl) (hh : DO X hi wh) : DE X (.Subscript e (.Slice lo hi none p2) pos) (wSlice we wl wh) := by
  refine pe_weak (pe_slice (sl_list.or sl_tupA) h hl hh) fun σ H Q ⟨O, δ, P, R0, w, f⟩ => ?_
  refine ⟨O, δ, _, R0, w, fun r δ1 v H1 w1 s1 R1 k1 => ?_⟩
  refine ⟨O, δ1, _, R1, w1, fun l δ2 H2 w2 s2 R2 => ?_⟩
  refine ⟨O, δ2, _, R2, w2, fun u δ3 H3 w3 s3 R3 => ?_⟩
  obtain ⟨dq, w3⟩ := held R0 k1 (s2.trans s3).same R3 w3
  have fin := fin_of R0 ((s1.trans s2).trans s3) R3 f
  split at w3
  · rename_i ds e
    rw [e] at dq
    obtain ⟨p, vs, e1, hq, ha⟩ := dq.tup hid_le
    refine .inr ⟨p, vs, e1, hq, fun hw => ?_, fun _ q hp => fin.2.2 _ _ q w3 (da_cut ha l u) hp⟩
    rcases dq with dq | ⟨_, _, _, _, z, _⟩
    · refine fin.1 _ _ w3 ?_
      rw [da_len ha] at hw
      have : cutD ds l u = ds := cut_whole ds hw
      rw [this]
      subst e1
      exact dq
    · cases z
  · rename_i ds e
    rw [e] at dq
    obtain ⟨p, vs, e1, hq, ha⟩ := dq.lst hid_le
    exact .inl ⟨p, vs, e1, hq, fun q hp => fin.2.1 _ _ q w3 (da_cut ha l u) hp⟩
  · exact w3.elim

/-! ### calls of the text's own defs -/
def spOf (K : PySem.W.Frag) (S : WE) : Sp := fun vs H Q _ => lift K S (vs.map some) H Q
/-- all arguments data -/
def wCall (S : WE) (u : WA) : WE := fun δ P => u δ fun rs δ1 => rs.all noB = true ∧ S (rs.map fun r => .d r.as) fun r _ => (match r with | .b _ _ => False | _ => P r δ1)
theorem rep_args {K : PySem.W.Frag} {O : Addr → Prop} {δ : Dl} {σ : L2.St} {H : Hp} (R : Rep K O δ σ H) {vs : List V} {ds : List PyData} (h : DpAll K (hid H O) vs ds) : Rep K O (ds.map Sl.d) (vs.map some) H := by
  refine ⟨by rw [List.length_map, List.length_map, da_len h], fun i x e => ?_, fun i xs e => ?_, fun i j xs ys a e => ?_, R.occ, .none fun i s e => ?_⟩
  · rw [List.getElem?_map] at e
    cases q : ds[i]? with
    | none => rw [q] at e; cases e
    | some d =>
      rw [q] at e; cases e
      obtain ⟨v, e1, e2⟩ := da_get h q
      exact ⟨v, by rw [List.getElem?_map, e1]; rfl, e2⟩
  · rw [List.getElem?_map] at e
    cases q : ds[i]? with
    | none => rw [q] at e; cases e
    | some d => rw [q] at e; cases e
  · rw [List.getElem?_map] at e
    cases q : ds[i]? with
    | none => rw [q] at e; cases e
    | some d => rw [q] at e; cases e
  · rw [List.getElem?_map] at e
    cases q : ds[i]? with
    | none => rw [q] at e; cases e
    | some d => rw [q] at e; cases e; rfl
theorem no_own {ds : List PyData} {σ : L2.St} {a : Addr} : ¬ Own (ds.map Sl.d) σ a := by
  rintro ⟨i, xs, e, _⟩
  rw [List.getElem?_map] at e
  cases q : ds[i]? with
  | none => rw [q] at e; cases e
  | some d => rw [q] at e; cases e
theorem Rep.mvO {K : PySem.W.Frag} {O O2 : Addr → Prop} {δ : Dl} {σ : L2.St} {H H' : Hp} (R : Rep K O δ σ H) (sub : ∀ a, O a → O2 a) (s : Same (hid H O) (hid H' O2)) (f : ∀ a, O a → H' a = H a) (occ : ∀ a, O2 a → ∃ o, H' a = some o) : Rep K O2 δ σ H' := by
  refine ⟨R.len, fun i x e => ?_, fun i xs e => ?_, R.inj, occ, R.ex.mv sub s fun a us z _ => f a z⟩
  · obtain ⟨v, e1, d⟩ := R.dat i x e
    exact ⟨v, e1, Dp.up d s⟩
  · obtain ⟨a, vs, e1, z, e2, d⟩ := R.lst i xs e
    exact ⟨a, vs, e1, sub a z, by rw [f a z]; exact e2, DpAll.up d s⟩
/-- what stood stands, a new thing at p hidden -/
theorem same_hide {O : Addr → Prop} {H H' : Hp} {p : Addr} (s : Same (hid H O) (hid H' O)) (n : H p = none) : Same (hid H O) (hid H' fun a => O a ∨ a = p) := fun b x e => by
  obtain ⟨nb, e'⟩ := hid_some e
  have ne : b ≠ p := ne_of_none e' n
  obtain ⟨_, e2⟩ := hid_some (s b x e)
  rw [hid_no (fun z => z.elim nb ne)]; exact e2
theorem Rep.mv {K : PySem.W.Frag} {O : Addr → Prop} {δ : Dl} {σ : L2.St} {H H' : Hp} (R : Rep K O δ σ H) (s : Same (hid H O) (hid H' O)) (f : ∀ a, O a → H' a = H a) : Rep K O δ σ H' := by
  refine ⟨R.len, fun i x e => ?_, fun i xs e => ?_, R.inj, fun a z => ?_, R.ex.mv (fun _ z => z) s fun a us z _ => f a z⟩
  · obtain ⟨v, e1, d⟩ := R.dat i x e
    exact ⟨v, e1, Dp.up d s⟩
  · obtain ⟨a, vs, e1, z, e2, d⟩ := R.lst i xs e
    exact ⟨a, vs, e1, z, by rw [f a z]; exact e2, DpAll.up d s⟩
  · rw [f a z]; exact R.occ a z
variable {x : Str} {f : Addr} {fd : FuncData} {ps : List Str} {k : Nat} {S : WE}
theorem de_call (F : FnG X.prog X.w X.K X.mg X.base CX0 k f fd ps (spOf X.K S)) (g0 : X.A.guards = some []) (room : Room k X.A) (hg : Gl X x) (hm : X.mg x = some (.ref f)) (hk : PySem.W.keepIn X.K (.ref f) = true) (hb : Binds X.K fd ps []) (ha : DA X (e :: es) ua)
    (hdb : (x == ("__debug__" : Str)) = false := by decide) (he : starEach (e :: es) X.env = (false, eval e X.env) :: starEach es X.env := by rfl) (hpl : (backTo pos (starEach es X.env)).any (·.1) = false := by rfl) :
    DE X (.Call (.Name x p) (e :: es) [] pos) (wCall S ua) := by
  refine pe_weak (pe_callG F g0 room hg hm hk hb (pass0 (X := X)) ha hdb he hpl) fun σ H Q ⟨O, δ, P, R0, w, g⟩ => ?_
  refine ⟨O, δ, _, R0, w, fun rs δ1 vs H1 w1 s1 R1 k1 => ?_⟩
  obtain ⟨w0, w1⟩ := w1
  have ha := RvsOk.dp R0 R1 k1 w0
  have hR := rep_args R1 ha
  rw [List.map_map] at hR
  refine ⟨O, _, _, hR, w1, fun r δ' v H' w2 s2 R2 k2 => ?_⟩
  have fr : ∀ a, O a → H' a = H1 a := fun a z => s2.frame a z (by
    have := no_own (ds := rs.map Rv.as) (σ := vs.map some) (a := a)
    rw [List.map_map] at this
    exact this)
  have st : Stp O δ1 δ1 σ H1 H' := ⟨s2.same, fun a z _ => fr a z, fun _ => Iff.rfl, fun _ _ => Iff.rfl, fun _ _ z => z⟩
  cases r with
  | b i xs => exact w2.elim
  | d x => exact g _ _ _ _ w2 (s1.trans st) (R1.mv s2.same fr) k2
  | l xs =>
    obtain ⟨p, us, e1, n, e, ha, hr⟩ := k2
    refine g _ _ _ _ w2 (s1.trans st) (R1.mv s2.same fr) (RvOk.back R0 R1 s1 ⟨p, us, e1, n, e, ha, R1.mvO (fun a z => .inl z) (same_hide s2.same n) fr hr.occ⟩)
/-- the first argument a list that slot i owns -/
def endO (δ1 : Dl) (i : Nat) (P : Rv → Dl → Prop) : Rv → Dl → Prop := fun r δc => match δc with
  | .o ys :: _ => (match r with | .b _ _ => False | _ => P r (δ1.set i (.o ys)))
  | _ => False
def wCallO1 (S : WE) (i : Nat) (P : Rv → Dl → Prop) (rs : List Rv) (δ1 : Dl) : Prop := match δ1[i]? with
  | some (.o xs) => S (.o xs :: rs.map fun r => .d r.as) (endO δ1 i P)
  | _ => False
def wCallO (S : WE) (i : Nat) (u : WA) : WE := fun δ P => match δ[i]? with
  | some (.o _) => u δ fun rs δ1 => rs.all noB = true ∧ wCallO1 S i P rs δ1
  | _ => False
theorem get_set {α : Type} {xs : List α} {i j : Nat} {x : α} : (xs.set i x)[j]? = if i = j then (if i < xs.length then some x else none) else xs[j]? := by
  rw [List.getElem?_set]
theorem set_dct {δ : Dl} {i j : Nat} {ys : List PyData} {kvs : List (List Int × PyData)} (q : (δ.set i (Sl.o ys))[j]? = some (Sl.m kvs)) : δ[j]? = some (Sl.m kvs) := by
  rw [get_set] at q
  by_cases h : i = j
  · rw [if_pos h] at q
    split at q <;> cases q
  · rw [if_neg h] at q
    exact q
theorem notlst {K : PySem.W.Frag} {O : Addr → Prop} {δ : Dl} {σ : L2.St} {H : Hp} {i : Nat} {xs : List PyData} {a b : Addr} {us : List (List Key × V)} (R : Rep K O δ σ H) (e : δ[i]? = some (.o xs)) (ea : σ[i]? = some (some (.ref a))) (eb : H b = some (.dT us)) : b ≠ a := fun z => by
  obtain ⟨a', vs', e1, _, e2, _⟩ := R.lst i xs e
  rw [ea] at e1; cases e1
  rw [z, e2] at eb; cases eb
theorem after_own {K : PySem.W.Frag} {O : Addr → Prop} {δ1 : Dl} {σ : L2.St} {H1 H' : Hp} {i : Nat} {xs ys : List PyData} {a : Addr} {vs : List V} (R1 : Rep K O δ1 σ H1) (e : δ1[i]? = some (.o xs)) (ea : σ[i]? = some (some (.ref a)))
    (same : Same (hid H1 O) (hid H' O)) (fr : ∀ b, O b → b ≠ a → H' b = H1 b) (new : H' a = some (.lst vs)) (dp : DpAll K (hid H' O) vs ys) : Stp O δ1 (δ1.set i (.o ys)) σ H1 H' ∧ Rep K O (δ1.set i (.o ys)) σ H' := by
  have hi : i < δ1.length := (List.getElem?_eq_some_iff.mp e).1
  have oa : O a := by
    obtain ⟨a', vs', e1, z, _⟩ := R1.lst i xs e
    rw [ea] at e1; cases e1; exact z
  have ne : ∀ j zs b, δ1[j]? = some (.o zs) → σ[j]? = some (some (.ref b)) → j ≠ i → b ≠ a := fun j zs b q1 q2 q3 q4 => by
    subst q4
    exact q3 (R1.inj j i zs xs b q1 e q2 ea)
  refine ⟨⟨same, fun b ob nb => fr b ob fun z => nb ⟨i, xs, e, by rw [z]; exact ea⟩, fun j => ?_, fun j x => ?_, fun j kvs q => set_dct q⟩, ⟨by rw [List.length_set]; exact R1.len, fun j x q => ?_, fun j zs q => ?_, fun j k zs ws b q1 q2 q3 q4 => ?_, fun b ob => ?_, (R1.ex.mv (fun _ z => z) same fun b us ob eb => fr b ob (notlst R1 e ea eb)).putd rfl⟩⟩
  · rw [get_set]
    by_cases h : i = j
    · subst h
      rw [if_pos rfl, if_pos hi]
      exact ⟨fun _ => ⟨xs, e⟩, fun _ => ⟨ys, rfl⟩⟩
    · rw [if_neg h]
  · rw [get_set]
    by_cases h : i = j
    · subst h
      rw [if_pos rfl, if_pos hi, e]
      exact ⟨fun z => (nomatch z), fun z => (nomatch z)⟩
    · rw [if_neg h]
  · rw [get_set] at q
    by_cases h : i = j
    · rw [if_pos h, if_pos hi] at q; cases q
    · rw [if_neg h] at q
      obtain ⟨v, e1, d⟩ := R1.dat j x q
      exact ⟨v, e1, Dp.up d same⟩
  · rw [get_set] at q
    by_cases h : i = j
    · subst h
      rw [if_pos rfl, if_pos hi] at q
      cases q
      exact ⟨a, vs, ea, oa, new, dp⟩
    · rw [if_neg h] at q
      obtain ⟨b, us, e1, z, e2, d⟩ := R1.lst j zs q
      exact ⟨b, us, e1, z, by rw [fr b z (ne j zs b q e1 fun w => h w.symm)]; exact e2, DpAll.up d same⟩
  · have c : ∀ (j : Nat) (zs : List PyData), (δ1.set i (Sl.o ys))[j]? = some (Sl.o zs) → ∃ zs', δ1[j]? = some (Sl.o zs') := fun j zs q => by
      rw [get_set] at q
      by_cases h : i = j
      · subst h; exact ⟨xs, e⟩
      · rw [if_neg h] at q; exact ⟨zs, q⟩
    obtain ⟨_, c1⟩ := c j zs q1
    obtain ⟨_, c2⟩ := c k ws q2
    exact R1.inj j k _ _ b c1 c2 q3 q4
  · by_cases h : b = a
    · rw [h]; exact ⟨_, new⟩
    · rw [fr b ob h]; exact R1.occ b ob
theorem after_ownO {K : PySem.W.Frag} {O O2 : Addr → Prop} {δ1 : Dl} {σ : L2.St} {H1 H' : Hp} {i : Nat} {xs ys : List PyData} {a : Addr} {vs : List V} (R1 : Rep K O δ1 σ H1) (e : δ1[i]? = some (.o xs)) (ea : σ[i]? = some (some (.ref a))) (sub : ∀ a, O a → O2 a)
    (same : Same (hid H1 O) (hid H' O2)) (fr : ∀ b, O b → b ≠ a → H' b = H1 b) (new : H' a = some (.lst vs)) (dp : DpAll K (hid H' O2) vs ys) (occ : ∀ a, O2 a → ∃ o, H' a = some o) : Rep K O2 (δ1.set i (.o ys)) σ H' := by
  have hi : i < δ1.length := (List.getElem?_eq_some_iff.mp e).1
  have oa : O a := by
    obtain ⟨a', vs', e1, z, _⟩ := R1.lst i xs e
    rw [ea] at e1; cases e1; exact z
  have ne : ∀ j zs b, δ1[j]? = some (.o zs) → σ[j]? = some (some (.ref b)) → j ≠ i → b ≠ a := fun j zs b q1 q2 q3 q4 => by
    subst q4
    exact q3 (R1.inj j i zs xs b q1 e q2 ea)
  refine ⟨by rw [List.length_set]; exact R1.len, fun j x q => ?_, fun j zs q => ?_, fun j k zs ws b q1 q2 q3 q4 => ?_, occ, (R1.ex.mv sub same fun b us ob eb => fr b ob (notlst R1 e ea eb)).putd rfl⟩
  · rw [get_set] at q
    by_cases h : i = j
    · rw [if_pos h, if_pos hi] at q; cases q
    · rw [if_neg h] at q
      obtain ⟨v, e1, d⟩ := R1.dat j x q
      exact ⟨v, e1, Dp.up d same⟩
  · rw [get_set] at q
    by_cases h : i = j
    · subst h
      rw [if_pos rfl, if_pos hi] at q
      cases q
      exact ⟨a, vs, ea, sub a oa, new, dp⟩
    · rw [if_neg h] at q
      obtain ⟨b, us, e1, z, e2, d⟩ := R1.lst j zs q
      exact ⟨b, us, e1, sub b z, by rw [fr b z (ne j zs b q e1 fun w => h w.symm)]; exact e2, DpAll.up d same⟩
  · have c : ∀ (j : Nat) (zs : List PyData), (δ1.set i (Sl.o ys))[j]? = some (Sl.o zs) → ∃ zs', δ1[j]? = some (Sl.o zs') := fun j zs q => by
      rw [get_set] at q
      by_cases h : i = j
      · subst h; exact ⟨xs, e⟩
      · rw [if_neg h] at q; exact ⟨zs, q⟩
    obtain ⟨_, c1⟩ := c j zs q1
    obtain ⟨_, c2⟩ := c k ws q2
    exact R1.inj j k _ _ b c1 c2 q3 q4
theorem rep_argsO {K : PySem.W.Frag} {O : Addr → Prop} {δ : Dl} {σ : L2.St} {H : Hp} {i : Nat} {xs : List PyData} {a : Addr} (R : Rep K O δ σ H) (e : δ[i]? = some (.o xs)) (ea : σ[i]? = some (some (.ref a))) {vs : List V} {ds : List PyData} (h : DpAll K (hid H O) vs ds) :
    Rep K O (.o xs :: ds.map Sl.d) (some (.ref a) :: vs.map some) H := by
  have R' := rep_args R h
  refine ⟨by rw [List.length_cons, List.length_cons, R'.len], fun j x q => ?_, fun j zs q => ?_, fun j k zs ws b q1 q2 q3 q4 => ?_, R.occ, .none fun j s q => ?_⟩
  · cases j with
    | zero => cases q
    | succ j => exact R'.dat j x q
  · cases j with
    | zero =>
      cases q
      obtain ⟨a', us, e1, z, e2, d⟩ := R.lst i xs e
      rw [ea] at e1; cases e1
      exact ⟨a, us, rfl, z, e2, d⟩
    | succ j => exact R'.lst j zs q
  · cases j with
    | zero =>
      cases k with
      | zero => rfl
      | succ k => obtain ⟨_, _, _, z, _⟩ := R'.lst k ws q2; exact absurd ⟨k, ws, q2, q4⟩ no_own
    | succ j => obtain ⟨_, _, _, z, _⟩ := R'.lst j zs q1; exact absurd ⟨j, zs, q1, q3⟩ no_own
  · cases j with
    | zero => cases q; rfl
    | succ j =>
      have q : (ds.map Sl.d)[j]? = some s := q
      rw [List.getElem?_map] at q
      cases w : ds[j]? with
      | none => rw [w] at q; cases q
      | some d => rw [w] at q; cases q; rfl
theorem de_callO {y : Str} {py : Pos} (i : Nat) (F : FnG X.prog X.w X.K X.mg X.base CX0 k f fd ps (spOf X.K S)) (g0 : X.A.guards = some []) (room : Room k X.A) (hg : Gl X x) (hm : X.mg x = some (.ref f)) (hk : PySem.W.keepIn X.K (.ref f) = true) (hb : Binds X.K fd ps []) (ha : DA X es ua)
    (hN : X.N[i]? = some y := by rfl) (hv : Vis X.env.scope y := by first | exact Or.inl rfl | exact Or.inr (Or.inl rfl) | exact Or.inr (Or.inr rfl)) (hy : (y == ("__debug__" : Str)) = false := by decide) (hcd : (y == ("__classdict__" : Str)) = false := by decide)
    (hdb : (x == ("__debug__" : Str)) = false := by decide) (he : starEach (.Name y py :: es) X.env = (false, eval (.Name y py) X.env) :: starEach es X.env := by rfl) (hpl : (backTo pos (starEach es X.env)).any (·.1) = false := by rfl) :
    DE X (.Call (.Name x p) (.Name y py :: es) [] pos) (wCallO S i ua) := by
  refine pe_weak (pe_callG F g0 room hg hm hk hb (pass0 (X := X)) (pa_cons (pe_var hN hv hy hcd) ha he) hdb he hpl) fun σ H Q ⟨O, δ, P, R0, w, g⟩ => ?_
  unfold wCallO at w
  split at w
  · rename_i xs0 e0
    obtain ⟨a, us, ea, oa, _, _⟩ := R0.lst i xs0 e0
    refine ⟨.ref a, ea, O, δ, _, R0, w, fun rs δ1 vs H1 w1 s1 R1 k1 => ?_⟩
    obtain ⟨w0, w1⟩ := w1
    unfold wCallO1 at w1
    split at w1
    · rename_i xs e
      have hR := rep_argsO R1 e ea (RvsOk.dp R0 R1 k1 w0)
      rw [List.map_map] at hR
      refine ⟨O, _, _, hR, w1, fun r δ' v H' w2 s2 R2 k2 => ?_⟩
      unfold endO at w2
      split at w2
      · rename_i ys rest
        obtain ⟨a', us', e1, _, e2, d⟩ := R2.lst 0 ys rfl
        cases e1
        have fr : ∀ b, O b → b ≠ a → H' b = H1 b := fun b ob nb => s2.frame b ob (by
          rintro ⟨j, zs, q1, q2⟩
          cases j with
          | zero => cases q2; exact nb rfl
          | succ j =>
            have := no_own (ds := rs.map Rv.as) (σ := vs.map some) (a := b)
            rw [List.map_map] at this
            exact this ⟨j, zs, q1, q2⟩)
        obtain ⟨st, R3⟩ := after_own R1 e ea s2.same fr e2 d
        cases r with
        | b i xs => exact w2.elim
        | d x => exact g _ _ _ _ w2 (s1.trans st) R3 k2
        | l zs =>
          obtain ⟨p, us2, q1, n, q2, ha, hr⟩ := k2
          obtain ⟨a3, us3, q3, _, q4, d3⟩ := hr.lst 0 ys rfl
          cases q3
          exact g _ _ _ _ w2 (s1.trans st) R3 (RvOk.back R0 R1 s1 ⟨p, us2, q1, n, q2, ha, after_ownO R1 e ea (fun a z => .inl z) (same_hide s2.same n) fr q4 d3 hr.occ⟩)
      · exact w2.elim
    · exact w1.elim
  · exact w.elim
end
end Dw

namespace Dw
open PySem PySem.Spec PyProof.Rows L2

/-! ### what is walked -/
abbrev WI := Dl → (List PyData → Dl → Prop) → Prop
def Yld (K : PySem.W.Frag) (G : Hp) (H1 : Hp) (x : V) (H2 : Hp) (d : PyData) : Prop :=
  (H2 = H1 ∧ Dp K G x d) ∨ ∃ T x1 x2 d1 d2, x = .ref T ∧ H1 T = none ∧ H2 = upd H1 T (.tup [x1, x2]) ∧ d = .tuple [d1, d2] ∧ Dp K G x1 d1 ∧ Dp K G x2 d2
def WalkD (K : PySem.W.Frag) (G : Hp) (J : It) (ds : List PyData) : Prop :=
  ∃ (GG : Hp → Prop) (Y : Nat → Hp → V → Hp → Prop), Walk J ds.length GG Y ∧ (∀ H1, Same G H1 → GG H1) ∧ ∀ i H1 x H2 d, ds[i]? = some d → Same G H1 → Y i H1 x H2 → Yld K G H1 x H2 d
def liftI (K : PySem.W.Frag) (w : WI) : TI := fun σ H R => ∃ O δ P, Rep K O δ σ H ∧ w δ P ∧ ∀ ds δ' H' J, P ds δ' → Stp O δ δ' σ H H' → Rep K O δ' σ H' → WalkD K (hid H' O) J ds → R J H'
def DI (X : Cx) (tg e : Expr) (w : WI) : Prop := PI X tg e (liftI X.K w)
section
variable {X : Cx} {tg a b c e : Expr} {wa wb wc we : WE} {pos p p2 tpos : Pos} {es elts : List Expr} {ua : WA} {kk : Nat}
theorem pi_weak {w w' : TI} (h : PI X tg e w) (f : ∀ σ H Q, w' σ H Q → w σ H Q) : PI X tg e w' := ⟨fun pins s σ H Q I q => h.run pins s σ H Q I (f σ H Q q)⟩
/-- a list or a tuple -/
theorem pi_seq {tl : TE} (hl : PE X e tl) : PI X tg e (fun σ H R => tl σ H fun x H1 => ∃ a, x = .ref a ∧ (((∃ xs, SqL X.K H1 a xs) ∧ R (Itl X.K a) H1) ∨ ((∃ xs, SqT X.K H1 a xs) ∧ R (Itt X.K a) H1))) := by
  refine ⟨fun pins s σ H R I q => thn (hl.run pins s σ H _ I q) fun v s1 ⟨x, H1, I1, r1, q1⟩ => ?_⟩
  obtain ⟨a, rfl, q1⟩ := q1
  cases r1
  have out : ∀ b ∈ [s1.heap.objs.size], FpOk X pins H1 b := fun b hb => by
    obtain rfl : b = s1.heap.objs.size := by simpa using hb
    exact I1.fpOk (Nat.le_refl _) (I1.hok.fresh (Nat.le_refl _))
  rcases q1 with ⟨⟨xs, hq⟩, q1⟩ | ⟨⟨xs, hq⟩, q1⟩
  · obtain ⟨its, rv, pl, hz⟩ := I1.list hq
    exact wpAny_pyIter_list pl.isList ⟨_, [_], _, _, H1, rfl, I1.kept (t' := s1.toks) fun _ _ z => Heap.get?_push_of_some _ z, turn_list a _, ⟨_, Heap.get?_push_size _ rfl, rfl, rfl⟩, out, q1⟩
  · obtain ⟨its, rv, pl, hz⟩ := I1.tuple hq
    exact wpAny_pyIter_tuple (show s1.heap.IsTuple a its.toArray from pl) ⟨_, [_], _, _, H1, rfl, I1.kept (t' := s1.toks) fun _ _ z => Heap.get?_push_of_some _ z, turn_tuple a _, ⟨_, Heap.get?_push_size _ rfl, rfl, rfl⟩, out, q1⟩
def wSeq (w : WE) : WI := fun δ P => w δ fun r δ1 => match r with
  | .d (.tuple xs) => P xs δ1
  | .d (.list xs) => P xs δ1
  | .l xs => P xs δ1
  | _ => False
theorem walkd_list {K : PySem.W.Frag} {G : Hp} {a : Addr} {xs : List V} {ds : List PyData} (hs : SqL K G a xs) (h : DpAll K G xs ds) : WalkD K G (Itl K a) ds := by
  refine ⟨fun H => SqL K H a xs, YAt xs, ?_, fun H1 s => sl_mono s hs, fun i H1 x H2 d e _ y => ?_⟩
  · rw [← da_len h]; exact walk_list
  · obtain ⟨y1, y2⟩ := y
    obtain ⟨d', e1, e2⟩ := da_getV h y2
    rw [e] at e1; cases e1
    exact .inl ⟨y1, e2⟩
theorem walkd_tup {K : PySem.W.Frag} {G : Hp} {a : Addr} {xs : List V} {ds : List PyData} (hs : SqT K G a xs) (h : DpAll K G xs ds) : WalkD K G (Itt K a) ds := by
  refine ⟨fun H => SqT K H a xs, YAt xs, ?_, fun H1 s => st_mono s hs, fun i H1 x H2 d e _ y => ?_⟩
  · rw [← da_len h]; exact walk_tup
  · obtain ⟨y1, y2⟩ := y
    obtain ⟨d', e1, e2⟩ := da_getV h y2
    rw [e] at e1; cases e1
    exact .inl ⟨y1, e2⟩
theorem di_seq (h : DE X e we) : DI X tg e (wSeq we) := by
  refine pi_weak (pi_seq h) fun σ H R ⟨O, δ, P, R0, w, f⟩ => ?_
  refine ⟨O, δ, _, R0, w, fun r δ1 v H1 w1 s1 R1 k1 => ?_⟩
  have go : ∀ xs, (r = .d (.list xs) ∨ r = .l xs) → P xs δ1 → ∃ a, v = .ref a ∧ (((∃ xs, SqL X.K H1 a xs) ∧ R (Itl X.K a) H1) ∨ ((∃ xs, SqT X.K H1 a xs) ∧ R (Itt X.K a) H1)) := fun xs hr pp => by
    have dp : Dp X.K (hid H1 O) v (.list xs) := by
      rcases hr with rfl | rfl
      · exact k1
      · rcases held0 R0 k1 R1 with z | ⟨p, vs, ds, e1, e2, h1, h2⟩
        · exact z
        · obtain ⟨p, vs, rfl, n, e, ha, hr⟩ := k1
          refine .lst (.inl (.inl ?_)) (DpAll.up ha (hid_sub fun a z => .inl z))
          rw [hid_no (R0.fresh n)]; exact e
    cases dp with
    | lst hs ha => exact ⟨_, rfl, .inl ⟨⟨_, sl_mono hid_le hs⟩, f _ _ _ _ pp s1 R1 (walkd_list hs ha)⟩⟩
  cases r with
  | b i xs => exact w1.elim
  | l xs => exact go xs (.inr rfl) w1
  | d x =>
    cases x <;> first | exact False.elim w1 | skip
    · exact go _ (.inl rfl) w1
    · have k1 : Dp X.K (hid H1 O) v (.tuple _) := k1
      cases k1 with
      | tup hs ha => exact ⟨_, rfl, .inr ⟨⟨_, st_mono hid_le (.inl (.inl hs))⟩, f _ _ _ _ w1 s1 R1 (walkd_tup (.inl (.inl hs)) ha)⟩⟩
/-- range -/
def rangeD (lo : Int) : Nat → List PyData
  | 0 => []
  | n + 1 => .int lo :: rangeD (lo + 1) n
theorem rangeD_len (lo : Int) : ∀ n, (rangeD lo n).length = n
  | 0 => rfl
  | n + 1 => by show (rangeD (lo + 1) n).length + 1 = n + 1; rw [rangeD_len (lo + 1) n]
theorem rangeD_get : ∀ {n : Nat} {lo : Int} {i : Nat} {d : PyData}, (rangeD lo n)[i]? = some d → d = .int (lo + i)
  | 0, _, _, _, h => by simp [rangeD] at h
  | n + 1, lo, 0, d, h => by
    have : PyData.int lo = d := Option.some.inj h
    rw [← this]; simp
  | n + 1, lo, i + 1, d, h => by
    have := rangeD_get (n := n) (lo := lo + 1) (i := i) (d := d) h
    rw [this]
    congr 1
    omega
theorem walkd_range {K : PySem.W.Frag} {G : Hp} {lo : Int} {n : Nat} : WalkD K G (Itr lo n) (rangeD lo n) := by
  refine ⟨fun _ => True, YFn fun i => .int (lo + i), ?_, fun _ _ => trivial, fun i H1 x H2 d e _ y => ?_⟩
  · rw [rangeD_len]; exact walk_range
  · obtain ⟨y1, y2⟩ := y
    rw [rangeD_get e, y2]
    exact .inl ⟨y1, .int _⟩
def wRng1 (u : WA) : WI := fun δ P => u δ fun rs δ1 => match rs with
  | [.d (.int j)] => (-(2 ^ 62) ≤ j ∧ j < 2 ^ 62) ∧ P (rangeD 0 j.toNat) δ1
  | _ => False
def wRng2 (u : WA) : WI := fun δ P => u δ fun rs δ1 => match rs with
  | [.d (.int i), .d (.int j)] => (-(2 ^ 62) ≤ i ∧ i < 2 ^ 62 ∧ -(2 ^ 62) ≤ j ∧ j < 2 ^ 62) ∧ P (rangeD i (j - i).toNat) δ1
  | _ => False
theorem di_range1 (hg : Gl X "range") (hm : X.mg "range" = none) (ha : DA X [a] ua) (hs : starEach [a] X.env = [(false, eval a X.env)] := by rfl) : DI X tg (.Call (.Name "range" p) [a] [] pos) (wRng1 ua) := by
  refine pi_weak (pi_range1 hg hm ha hs) fun σ H R ⟨O, δ, P, R0, w, f⟩ => ?_
  refine ⟨O, δ, _, R0, w, fun rs δ1 vs H1 w1 s1 R1 k1 => ?_⟩
  split at w1
  · rename_i j
    have dp := RvsOk.dp R0 R1 k1 rfl
    cases dp with
    | cons h1 h2 => cases h2; cases h1; exact ⟨j, rfl, w1.1.1, w1.1.2, f _ _ _ _ w1.2 s1 R1 walkd_range⟩
  · exact w1.elim
theorem di_range2 (hg : Gl X "range") (hm : X.mg "range" = none) (ha : DA X [a, b] ua) (hs : starEach [a, b] X.env = [(false, eval a X.env), (false, eval b X.env)] := by rfl) (hs2 : starEach [b] X.env = [(false, eval b X.env)] := by rfl) : DI X tg (.Call (.Name "range" p) [a, b] [] pos) (wRng2 ua) := by
  refine pi_weak (pi_range2 hg hm ha hs hs2) fun σ H R ⟨O, δ, P, R0, w, f⟩ => ?_
  refine ⟨O, δ, _, R0, w, fun rs δ1 vs H1 w1 s1 R1 k1 => ?_⟩
  split at w1
  · rename_i i j
    have dp := RvsOk.dp R0 R1 k1 rfl
    cases dp with
    | cons h1 h2 =>
      cases h2 with
      | cons h2 h3 => cases h3; cases h2; cases h1; exact ⟨i, j, rfl, w1.1, f _ _ _ _ w1.2 s1 R1 walkd_range⟩
  · exact w1.elim
/-- enumerate -/
def enumD (i : Nat) : List PyData → List PyData
  | [] => []
  | x :: r => .tuple [.int i, x] :: enumD (i + 1) r
theorem enumD_len : ∀ (i : Nat) (ds : List PyData), (enumD i ds).length = ds.length
  | _, [] => rfl
  | i, x :: r => by show (enumD (i + 1) r).length + 1 = r.length + 1; rw [enumD_len (i + 1) r]
theorem enumD_get : ∀ {ds : List PyData} {k i : Nat} {d : PyData}, (enumD k ds)[i]? = some d → ∃ x, ds[i]? = some x ∧ d = .tuple [.int ((k + i : Nat) : Int), x]
  | [], _, _, _, h => by simp [enumD] at h
  | y :: r, k, 0, d, h => ⟨y, rfl, (Option.some.inj h).symm⟩
  | y :: r, k, i + 1, d, h => by
    obtain ⟨x, e1, e2⟩ := enumD_get (ds := r) (k := k + 1) (i := i) (d := d) h
    refine ⟨x, e1, ?_⟩
    rw [e2]
    congr 4
    omega
theorem walkd_pair {K : PySem.W.Frag} {G : Hp} {J : It} {n : Nat} {GG : Hp → Prop} {xs ys : Nat → Option V} {ds : List PyData} (w : Walk J n GG (YPair xs ys)) (hn : n = ds.length) (hG : ∀ H1, Same G H1 → GG H1)
    (hd : ∀ i d, ds[i]? = some d → ∃ d1 d2, d = .tuple [d1, d2] ∧ (∀ v, xs i = some v → Dp K G v d1) ∧ (∀ v, ys i = some v → Dp K G v d2)) : WalkD K G J ds := by
  subst hn
  refine ⟨GG, _, w, hG, fun i H1 x H2 d e _ y => ?_⟩
  obtain ⟨T, x1, x2, e1, e2, e3, e4, e5⟩ := y
  obtain ⟨d1, d2, q1, q2, q3⟩ := hd i d e
  exact .inr ⟨T, x1, x2, d1, d2, e1, e2, e3, q1, q2 _ e4, q3 _ e5⟩
end
section
variable {P : Program} {w : World}
/-- enumerate(tuple): the iterator and its turns -/
theorem meets_enumT (l : Addr) (items : Array Value) (n : Nat) (dct : Option Addr) (sl : Array (Option Value)) :
    Meets (Builtin.«enumerate.__new__» ⟨[.type "enumerate", .ref l], []⟩) (fun _ R s => s.heap.get? l = some { cls := .type "tuple", dict := dct, data := .seq items n, slots := sl } ∧
      R (.ok (.ret (.ref (s.heap.push { cls := .type "tuple_iterator", data := .fields #[.ref l, .int 0 0] }).objs.size)))
        { s with heap := (s.heap.push { cls := .type "tuple_iterator", data := .fields #[.ref l, .int 0 0] }).push { cls := .type "enumerate", data := .fields #[.none, .bool false, .ref s.heap.objs.size, rawInt 0, .none, .none] } }) :=
  .of_wp fun prog w A R s h => by
    obtain ⟨hp, g, d, tk, os⟩ := s
    obtain ⟨hl, h⟩ := h
    have sub := sub_enumerate
    have tup : Heap.IsTuple (Shared.heap ⟨hp, g, d, tk, os⟩) l items := ⟨_, hl, rfl, n, rfl⟩
    wp_walk using wpAny_loadPart' hl
    refine wpAny_stack_any fun st => wpAny_pure ?_
    split
    · rename_i c _ _ _ _ _
      cases (c == Value.type "enumerate") <;> (wp_walk using wpAny_loadPart' hl, wpAny_pyIter_tuple tup) <;> exact ⟨_, rfl, h⟩
    · wp_walk using wpAny_loadPart' hl, wpAny_pyIter_tuple tup
      exact ⟨_, rfl, h⟩
theorem call_enumT {A : Around} {E : Value → Shared → Prop} {s : Shared} {l : Addr} {items : Array Value} {Q : Value → Shared → Prop} (hL : s.heap.IsTuple l items)
    (h : ∀ h', IsEnum h' (s.heap.objs.size + 1) s.heap.objs.size 0 .none → h'.IsTupleIter s.heap.objs.size l 0 → (∀ b o, s.heap.get? b = some o → h'.get? b = some o) → Q (.ref (s.heap.objs.size + 1)) { s with heap := h' }) :
    wpAny (model P w) A (call (.type "enumerate") [.ref l]) Q E s := by
  obtain ⟨⟨c, dct, dt, sl⟩, hl, hc, n, hd⟩ := hL
  obtain rfl : c = .type "tuple" := hc
  obtain rfl : dt = .seq items n := hd
  have hz : (s.heap.push { cls := .type "tuple_iterator", data := .fields #[.ref l, .int 0 0] }).objs.size = s.heap.objs.size + 1 := Heap.size_push ..
  refine callType_new F.called_enumerate (by decide) (F.typeCall_enumerate_1 _) (F.newCall_enumerate_1 _) (fun obj => F.args_object_init_2 obj _) F.entry_enumerate_new (meets_enumT l items n dct sl) ⟨hl, ?_⟩
  show _ ∧ _
  rw [hz]
  have he : IsEnum ((s.heap.push { cls := .type "tuple_iterator", data := .fields #[.ref l, .int 0 0] }).push
      { cls := .type "enumerate", data := .fields #[.none, .bool false, .ref s.heap.objs.size, rawInt 0, .none, .none] }) (s.heap.objs.size + 1) s.heap.objs.size 0 .none := by
    have q := Heap.get?_push_size (s.heap.push { cls := .type "tuple_iterator", data := .fields #[.ref l, .int 0 0] }) (o := { cls := .type "enumerate", data := .fields #[.none, .bool false, .ref s.heap.objs.size, rawInt 0, .none, .none] }) rfl
    rw [hz] at q
    exact q
  exact ⟨⟨_, he, rfl⟩, h _ he ⟨_, Heap.get?_push_of_some _ (Heap.get?_push_size _ rfl), rfl, rfl⟩ fun b o x => Heap.get?_push_of_some _ (Heap.get?_push_of_some _ x)⟩
def ItT (K : PySem.W.Frag) (a : Addr) : It :=
  ⟨fun i H => ∃ (xs : List V) (x : V), SqT K H a xs ∧ xs[i]? = some x, fun i H v H' => ∃ T x, v = .ref T ∧ H T = none ∧ H' = upd H T (.tup [.int (i : Nat), x]) ∧ ∀ xs, SqT K H a xs → xs[i]? = some x, fun i H => ∃ xs : List V, SqT K H a xs ∧ xs.length = i⟩
theorem turn_enumT {K : PySem.W.Frag} {elts : List Expr} {kk : Nat} {tpos : Pos} (a e it : Addr) :
    Turn P w K (.Tuple elts kk tpos) (ItT K a) [e, it] e (fun i h => (∃ old, IsEnum h e it ((i : Nat) : Int) old) ∧ h.IsTupleIter it a i ∧ e ≠ it) where
  mem := by simp
  obj := by
    rintro i h ⟨⟨old, he⟩, ⟨o, ho, hc, hd⟩, _⟩ b hb
    rcases (show b = e ∨ b = it by simpa using hb) with rfl | rfl
    · exact ⟨_, he, fun v q => nomatch q⟩
    · exact ⟨o, ho, fun v q => by rw [hd] at q; cases q⟩
  keep := by
    rintro i h h' ⟨⟨old, he⟩, ⟨o, ho, r⟩, hne⟩ k
    exact ⟨⟨old, k e (by simp) _ he⟩, ⟨o, k it (by simp) o ho, r⟩, hne⟩
  item := by
    intro X hP hw hK hc i pins s σ H E I hf st hg
    subst hP hw hK
    obtain ⟨⟨old, he⟩, hit, hne⟩ := st
    obtain ⟨xs, x, hq, hx⟩ := hg
    obtain ⟨its, rv, p, hz⟩ := I.tuple hq
    have hel : e < s.heap.objs.size := Heap.lt_size he
    have hil : it < s.heap.objs.size := by obtain ⟨_, q, _⟩ := hit; exact Heap.lt_size q
    obtain ⟨ot, hot, hct, nt, hdt⟩ := p
    have hil2 : a ≠ it := fun z => by
      obtain ⟨o, ho, hc', hd'⟩ := hit
      rw [← z, hot] at ho; cases ho
      rw [hdt] at hd'; cases hd'
    have hie : e ≠ a := fun z => by
      have he' := he
      unfold IsEnum at he'
      rw [z, hot] at he'; cases he'
      cases hdt
    have hi : i < its.toArray.size := by
      rw [List.size_toArray, ← rv.length]
      exact (List.getElem?_eq_some_iff.mp hx).1
    refine wpAny_pyNext_enum_itemD (Draws.tuple (A := X.A.in1) (I.ok.hd hc) it a hil2 its.toArray) he ⟨hit, ⟨ot, hot, hct, nt, hdt⟩⟩ hi hne (by simp; exact ⟨hne, hie⟩) fun u h' tk hu ho hst hT hsz hk => ?_
    have hu : its[i]? = some u := by simpa using hu
    obtain ⟨u', hu', ru⟩ := rv.get hx
    rw [hu] at hu'; cases hu'
    refine ⟨_, rfl, wpAny_letOwnedTupleGo_enum (s := { s with heap := h', toks := tk + 1 }) ho fun h'' he' sb => ?_⟩
    have hT2 : h''.get? s.heap.objs.size = some { cls := .type "tuple", data := .seq #[.int i tk, u] } := (sb.2 _ (Nat.ne_of_gt hel)).trans hT
    have new : ObjOk X.prog X.w (upd H s.heap.objs.size (.tup [.int (i : Nat), x])) h'' s.heap.objs.size (.tup [.int (i : Nat), x]) :=
      ⟨by show 2 ≤ sizeLine; decide, [.int i tk, u], .cons ⟨_, rfl⟩ (.cons ru .nil), ⟨_, hT2, rfl, _, rfl⟩⟩
    have I1 : Inv X pins σ (upd H s.heap.objs.size (.tup [.int (i : Nat), x])) { s with heap := h'', toks := tk + 1 } :=
      I.turnedNew (ch := [e, it]) (fun b ob hb q => (sb.2 b (fun z => hb (by simp [z]))).trans (hk b ob (fun z => hb (by simp [z])) (fun z => hb (by simp [z])) q)) hf (Nat.le_refl _) new
    obtain ⟨oi, hoi, ri⟩ := hst.1
    refine ⟨.ref s.heap.objs.size, _, I1, rfl, ⟨_, x, rfl, I.hok.fresh (Nat.le_refl _), rfl, fun ys hy => ?_⟩, ⟨⟨u, ?_⟩, ⟨oi, (sb.2 it (Ne.symm hne)).trans hoi, ri⟩, hne⟩, fun b hb => ?_⟩
    · rw [I.tuple_inj hy hq]; exact hx
    · have e1 : ((i + 1 : Nat) : Int) = (i : Int) + 1 := by omega
      rw [e1]; exact he'
    · have hb' : b < s.heap.objs.size := by
        rcases (show b = e ∨ b = it by simpa using hb) with z | z
        · rw [z]; exact hel
        · rw [z]; exact hil
      rw [upd_ne (Nat.ne_of_lt hb')]
      exact (hf b hb).1
  done := by
    intro X hP hw hK hc i pins s σ H E I hf st hg
    subst hP hw hK
    obtain ⟨⟨old, he⟩, hit, hne⟩ := st
    obtain ⟨xs, hq, hx⟩ := hg
    obtain ⟨its, rv, p, hz⟩ := I.tuple hq
    obtain ⟨f0, f1, f2, f3, f4, f5⟩ := hf it (by simp)
    obtain ⟨ot, hot, hct, nt, hdt⟩ := p
    have hil2 : a ≠ it := fun z => by
      obtain ⟨o, ho, hc', hd'⟩ := hit
      rw [← z, hot] at ho; cases ho
      rw [hdt] at hd'; cases hd'
    have hn : its.toArray.size = i := by rw [List.size_toArray, ← rv.length]; exact hx
    subst hn
    exact wpAny_pyNext_enum_endD (Draws.tuple (A := X.A.in1) (I.ok.hd hc) it a hil2 its.toArray) he ⟨hit, ⟨ot, hot, hct, nt, hdt⟩⟩ fun h' eb => ⟨rfl, I.turned (t' := s.toks) (fun b o hb q => eb b o hb q) f0 f1 f3 f4 f5⟩
  self := fun A i s Q E st h => let ⟨⟨_, he⟩, _⟩ := st; wpAny_pyIter_enum he h
end
section
variable {X : Cx} {tg a b c e e2 : Expr} {we : WE} {pos p p2 tpos : Pos} {es elts : List Expr} {ua : WA} {kk : Nat}
/-- enumerate(list or tuple) -/
theorem pi_enumA {ta : TA} (hg : Gl X "enumerate") (hm : X.mg "enumerate" = none) (ha : PA X [e] ta) (hs : starEach [e] X.env = [(false, eval e X.env)] := by rfl) :
    PI X (.Tuple elts kk tpos) (.Call (.Name "enumerate" p) [e] [] pos) (fun σ H R => ta σ H fun vs H1 => ∃ a xs, vs = [.ref a] ∧ ((SqL X.K H1 a xs ∧ R (Ite X.K a) H1) ∨ (SqT X.K H1 a xs ∧ R (ItT X.K a) H1))) := by
  refine ⟨fun pins s σ H R I q => Call_ (ld_blt I hg hm boot_enumerate (PyProof.Rows.callWith_type1 (thn (ha.run pos pins s σ H _ I q) fun us s1 ⟨vs, H1, I1, r1, q1⟩ => ?_) hs rfl))⟩
  obtain ⟨a, xs, rfl, q1⟩ := q1
  obtain ⟨u, rfl, ru⟩ := vals1 r1
  cases ru
  have out : ∀ b ∈ [s1.heap.objs.size + 1, s1.heap.objs.size], FpOk X pins H1 b := fun b hb => by
    have hle : s1.heap.objs.size ≤ b := by
      rcases (show b = s1.heap.objs.size + 1 ∨ b = s1.heap.objs.size by simpa using hb) with z | z
      · rw [z]; exact Nat.le_add_right _ _
      · rw [z]; exact Nat.le_refl _
    exact I1.fpOk hle (I1.hok.fresh hle)
  rcases q1 with ⟨hq, q1⟩ | ⟨hq, q1⟩
  · obtain ⟨its, rv, pl, hz⟩ := I1.list hq
    refine call_enumerate_list pl.isList fun h' he hit hsz hk => wpAny_pyIter_enum he ?_
    exact ⟨_, [s1.heap.objs.size + 1, s1.heap.objs.size], _, _, H1, rfl, I1.kept (t' := s1.toks) hk, turn_enum a (s1.heap.objs.size + 1) s1.heap.objs.size, ⟨⟨.none, he⟩, hit, Nat.succ_ne_self _⟩, out, q1⟩
  · obtain ⟨its, rv, pl, hz⟩ := I1.tuple hq
    refine call_enumT (show s1.heap.IsTuple a its.toArray from pl) fun h' he hit hk => wpAny_pyIter_enum he ?_
    exact ⟨_, [s1.heap.objs.size + 1, s1.heap.objs.size], _, _, H1, rfl, I1.kept (t' := s1.toks) hk, turn_enumT a (s1.heap.objs.size + 1) s1.heap.objs.size, ⟨⟨.none, he⟩, hit, Nat.succ_ne_self _⟩, out, q1⟩
theorem walk_enumT {K : PySem.W.Frag} {a : Addr} {xs : List V} : Walk (ItT K a) xs.length (fun H => SqT K H a xs) (YPair (fun i => some (.int (i : Nat))) (fun i => xs[i]?)) := by
  refine ⟨fun i _ hi q => ⟨xs, xs[i], q, by simp [hi]⟩, fun _ q => ⟨xs, q, rfl⟩, fun i H v H' _ q y => ?_⟩
  obtain ⟨T, x, h1, h2, h3, h4⟩ := y
  exact ⟨T, .int (i : Nat), x, h1, h2, h3, rfl, h4 xs q⟩
def wEnum (u : WA) : WI := fun δ P => u δ fun rs δ1 => match rs with
  | [.d (.tuple xs)] => P (enumD 0 xs) δ1
  | [.d (.list xs)] => P (enumD 0 xs) δ1
  | [.l xs] => P (enumD 0 xs) δ1
  | _ => False
theorem enum_dp {K : PySem.W.Frag} {G : Hp} {xs : List V} {ds : List PyData} (h : DpAll K G xs ds) : ∀ (i : Nat) (d : PyData), (enumD 0 ds)[i]? = some d → ∃ d1 d2, d = .tuple [d1, d2] ∧ (∀ v, (some (V.int (i : Nat))) = some v → Dp K G v d1) ∧ (∀ v, xs[i]? = some v → Dp K G v d2) := by
  intro i d e
  obtain ⟨x, e1, e2⟩ := enumD_get e
  refine ⟨_, _, e2, fun v q => ?_, fun v q => ?_⟩
  · cases q
    rw [Nat.zero_add]
    exact .int _
  · obtain ⟨d', q1, q2⟩ := da_getV h q
    rw [e1] at q1; cases q1
    exact q2
theorem di_enum (hg : Gl X "enumerate") (hm : X.mg "enumerate" = none) (ha : DA X [e] ua) (hs : starEach [e] X.env = [(false, eval e X.env)] := by rfl) : DI X (.Tuple elts kk tpos) (.Call (.Name "enumerate" p) [e] [] pos) (wEnum ua) := by
  refine pi_weak (pi_enumA hg hm ha hs) fun σ H R ⟨O, δ, P, R0, w, f⟩ => ?_
  refine ⟨O, δ, _, R0, w, fun rs δ1 vs H1 w1 s1 R1 k1 => ?_⟩
  have onL : ∀ xs, rs.all noB = true → rs.map Rv.as = [.list xs] → P (enumD 0 xs) δ1 → ∃ a xs, vs = [.ref a] ∧ ((SqL X.K H1 a xs ∧ R (Ite X.K a) H1) ∨ (SqT X.K H1 a xs ∧ R (ItT X.K a) H1)) := fun xs q1 q2 pp => by
    have dp := RvsOk.dp R0 R1 k1 q1
    rw [q2] at dp
    cases dp with
    | cons h1 h2 =>
      cases h2
      cases h1 with
      | lst hs ha => exact ⟨_, _, rfl, .inl ⟨sl_mono hid_le hs, f _ _ _ _ pp s1 R1 (walkd_pair walk_enum (by rw [enumD_len, da_len ha]) (fun H2 s => sl_mono s hs) (enum_dp ha))⟩⟩
  split at w1
  · rename_i xs
    have dp := RvsOk.dp R0 R1 k1 rfl
    cases dp with
    | cons h1 h2 =>
      cases h2
      have h1 : Dp X.K (hid H1 O) _ (.tuple xs) := h1
      cases h1 with
      | tup hs ha => exact ⟨_, _, rfl, .inr ⟨st_mono hid_le (.inl (.inl hs)), f _ _ _ _ w1 s1 R1 (walkd_pair walk_enumT (by rw [enumD_len, da_len ha]) (fun H2 s => st_mono s (.inl (.inl hs))) (enum_dp ha))⟩⟩
  · exact onL _ rfl rfl w1
  · exact onL _ rfl rfl w1
  · exact w1.elim
/-- zip of two tuples, of two lists -/
def zipD : List PyData → List PyData → List PyData
  | x :: xs, y :: ys => .tuple [x, y] :: zipD xs ys
  | _, _ => []
theorem zipD_len : ∀ (xs ys : List PyData), (zipD xs ys).length = min xs.length ys.length
  | [], ys => by simp [zipD]
  | x :: xs, [] => by simp [zipD]
  | x :: xs, y :: ys => by
    show (zipD xs ys).length + 1 = min (xs.length + 1) (ys.length + 1)
    rw [zipD_len xs ys]
    omega
theorem zipD_get : ∀ {xs ys : List PyData} {i : Nat} {d : PyData}, (zipD xs ys)[i]? = some d → ∃ x y, xs[i]? = some x ∧ ys[i]? = some y ∧ d = .tuple [x, y]
  | [], _, _, _, h => by simp [zipD] at h
  | _ :: _, [], _, _, h => by simp [zipD] at h
  | x :: xs, y :: ys, 0, d, h => ⟨x, y, rfl, rfl, (Option.some.inj h).symm⟩
  | x :: xs, y :: ys, i + 1, d, h => zipD_get (xs := xs) (ys := ys) (i := i) (d := d) h
def wZip (u : WA) : WI := fun δ P => u δ fun rs δ1 => rs.all noB = true ∧ match rs.map Rv.as with
  | [.tuple xs, .tuple ys] => P (zipD xs ys) δ1
  | [.list xs, .list ys] => P (zipD xs ys) δ1
  | [.list xs, .tuple ys] => P (zipD xs ys) δ1
  | [.tuple xs, .list ys] => P (zipD xs ys) δ1
  | _ => False
theorem zip_dp {K : PySem.W.Frag} {G : Hp} {xs ys : List V} {ds es : List PyData} (h : DpAll K G xs ds) (h2 : DpAll K G ys es) : ∀ (i : Nat) (d : PyData), (zipD ds es)[i]? = some d → ∃ d1 d2, d = .tuple [d1, d2] ∧ (∀ v, xs[i]? = some v → Dp K G v d1) ∧ (∀ v, ys[i]? = some v → Dp K G v d2) := by
  intro i d e
  obtain ⟨x, y, e1, e2, e3⟩ := zipD_get e
  refine ⟨_, _, e3, fun v q => ?_, fun v q => ?_⟩
  · obtain ⟨d', q1, q2⟩ := da_getV h q
    rw [e1] at q1; cases q1
    exact q2
  · obtain ⟨d', q1, q2⟩ := da_getV h2 q
    rw [e2] at q1; cases q1
    exact q2
end
/-! zip of lists and tuples in any mix: f tells which -/
def SqB (f : Bool) (K : PySem.W.Frag) (H : Hp) (a : Addr) (xs : List V) : Prop := match f with
  | true => SqL K H a xs
  | false => SqT K H a xs
def itB (f : Bool) (h : Heap) (it l : Addr) (i : Nat) : Prop := match f with
  | true => h.IsListIter it l i
  | false => h.IsTupleIter it l i
def isB (f : Bool) (h : Heap) (l : Addr) (us : Array Value) : Prop := match f with
  | true => h.IsList l us
  | false => h.IsTuple l us
def itO (f : Bool) (l : Addr) : Obj := match f with
  | true => { cls := .type "list_iterator", data := .fields #[.ref l, .int 0 0] }
  | false => { cls := .type "tuple_iterator", data := .fields #[.ref l, .int 0 0] }
section
variable {P : Program} {w : World} {K : PySem.W.Frag} {f f2 : Bool} {H : Hp} {a b : Addr} {xs ys : List V}
theorem sqB_mono {H' : Hp} (s : Same H H') (h : SqB f K H a xs) : SqB f K H' a xs := by
  cases f with
  | true => exact sl_mono s h
  | false => exact st_mono s h
theorem drawsB {A : Around} (hh : A.handled = none) (it l : Addr) (ne : l ≠ it) (us : Array Value) : Draws P w A it [it, l] us.size (fun i v => us[i]? = some v) (fun i h => itB f h it l i ∧ isB f h l us) := by
  cases f with
  | true => exact Draws.list hh it l ne us
  | false => exact Draws.tuple hh it l ne us
theorem beginsB (l : Addr) (us : Array Value) : Begins (.ref l) (itO f l) fun h => isB f h l us := by
  cases f with
  | true => exact begins_list l us
  | false => exact begins_tuple l us
theorem itB_obj {h : Heap} {it l : Addr} {i : Nat} (st : itB f h it l i) : ∃ o vs, h.get? it = some o ∧ o.data = .fields vs := by
  cases f with
  | true => obtain ⟨o, ho, _, hd⟩ := st; exact ⟨o, _, ho, hd⟩
  | false => obtain ⟨o, ho, _, hd⟩ := st; exact ⟨o, _, ho, hd⟩
theorem itB_keep {h h' : Heap} {it l : Addr} {i : Nat} (st : itB f h it l i) (k : ∀ o, h.get? it = some o → h'.get? it = some o) : itB f h' it l i := by
  cases f with
  | true => obtain ⟨o, ho, r⟩ := st; exact ⟨o, k o ho, r⟩
  | false => obtain ⟨o, ho, r⟩ := st; exact ⟨o, k o ho, r⟩
theorem itB_new {h : Heap} {it l : Addr} (e : h.get? it = some (itO f l)) : itB f h it l 0 := by
  cases f with
  | true => exact ⟨_, e, rfl, rfl⟩
  | false => exact ⟨_, e, rfl, rfl⟩
theorem seqB {X : Cx} {pins : List (Addr × Obj)} {σ : L2.St} {s : Shared} (I : Inv X pins σ H s) (h : SqB f X.K H a xs) : ∃ its : List Value, Vals xs its ∧ isB f s.heap a its.toArray ∧ (∃ o us m, s.heap.get? a = some o ∧ o.data = .seq us m) ∧ ∀ zs, SqB f X.K H a zs → zs = xs := by
  cases f with
  | true =>
    obtain ⟨its, rv, p, _⟩ := I.list h
    obtain ⟨o, n, ho, hc, _, hd⟩ := id p
    exact ⟨its, rv, p.isList, ⟨o, _, n, ho, hd⟩, fun zs hz => I.list_inj hz h⟩
  | false =>
    obtain ⟨its, rv, p, _⟩ := I.tuple h
    obtain ⟨o, ho, hc, n, hd⟩ := id p
    exact ⟨its, rv, p, ⟨o, _, n, ho, hd⟩, fun zs hz => I.tuple_inj hz h⟩
def ItX (f f2 : Bool) (K : PySem.W.Frag) (a b : Addr) : It where
  go := fun i H => ∃ (xs ys : List V) (x y : V), SqB f K H a xs ∧ SqB f2 K H b ys ∧ xs[i]? = some x ∧ ys[i]? = some y ∧ True
  yld := fun i H v H' => ∃ T x y, v = .ref T ∧ H T = none ∧ H' = upd H T (.tup [x, y]) ∧ (∀ xs, SqB f K H a xs → xs[i]? = some x) ∧ (∀ ys, SqB f2 K H b ys → ys[i]? = some y) ∧ True
  stop := fun i H => ∃ xs ys : List V, SqB f K H a xs ∧ SqB f2 K H b ys ∧ i = min xs.length ys.length
theorem turn_zipX {elts : List Expr} {kk : Nat} {tpos : Pos} {z TI TO i1 i2 : Addr} (S : ZipSep2 z TI TO i1 i2 [i1, a] [i2, b]) :
    Turn P w K (.Tuple elts kk tpos) (ItX f f2 K a b) [z, TI, TO, i1, i2] z (fun i h => IsZip h z TI TO .none ∧ IsTupOf2 h TI (.ref i1) (.ref i2) ∧ (∃ x y, IsTupOf2 h TO x y) ∧ itB f h i1 a i ∧ itB f2 h i2 b i ∧ a ≠ i1 ∧ b ≠ i2) where
  mem := by simp
  obj := by
    rintro i h ⟨hz, hTI, ⟨x, y, hTO⟩, h1, h2, _⟩ c hc
    rcases (show c = z ∨ c = TI ∨ c = TO ∨ c = i1 ∨ c = i2 by simpa using hc) with rfl | rfl | rfl | rfl | rfl
    · exact ⟨_, hz, fun v q => nomatch q⟩
    · exact ⟨_, hTI, fun v q => nomatch q⟩
    · exact ⟨_, hTO, fun v q => nomatch q⟩
    · obtain ⟨o, vs, e, d⟩ := itB_obj h1
      exact ⟨o, e, fun v q => by rw [d] at q; cases q⟩
    · obtain ⟨o, vs, e, d⟩ := itB_obj h2
      exact ⟨o, e, fun v q => by rw [d] at q; cases q⟩
  keep := by
    rintro i h h' ⟨hz, hTI, ⟨x, y, hTO⟩, h1, h2, n1, n2⟩ k
    exact ⟨k z (by simp) _ hz, k TI (by simp) _ hTI, ⟨x, y, k TO (by simp) _ hTO⟩, itB_keep h1 (k i1 (by simp)), itB_keep h2 (k i2 (by simp)), n1, n2⟩
  item := by
    intro X hP hw hK hc i pins s σ H E I hf st hg
    subst hP hw hK
    obtain ⟨hz, hTI, ⟨x0, y0, hTO⟩, h1, h2, n1, n2⟩ := st
    obtain ⟨xs, ys, x, y, qx, qy, ex, ey, _⟩ := hg
    obtain ⟨us, r1, p1, _, j1⟩ := seqB I qx
    obtain ⟨vs, r2, p2, _, j2⟩ := seqB I qy
    obtain ⟨u, eu, ru⟩ := r1.get ex
    obtain ⟨v, ev, rv⟩ := r2.get ey
    have l1 : i < us.toArray.size := by rw [List.size_toArray]; exact (List.getElem?_eq_some_iff.mp eu).1
    have l2 : i < vs.toArray.size := by rw [List.size_toArray]; exact (List.getElem?_eq_some_iff.mp ev).1
    have zl : z < s.heap.objs.size := Heap.lt_size hz
    refine wpAny_pyNext_zipD2_item S (drawsB (A := X.A.in1) (I.ok.hd hc) i1 a n1 us.toArray) (drawsB (A := X.A.in1) (I.ok.hd hc) i2 b n2 vs.toArray) hz hTI hTO ⟨h1, p1⟩ ⟨h2, p2⟩ l1 l2 fun u' v' h' tk g1 g2 z' TO' s1 s2 hT _ hk => ?_
    obtain rfl : u = u' := by
      have g1 : us[i]? = some u' := by simpa using g1
      rw [eu] at g1; cases g1; rfl
    obtain rfl : v = v' := by
      have g2 : vs[i]? = some v' := by simpa using g2
      rw [ev] at g2; cases g2; rfl
    refine ⟨_, rfl, wpAny_letOwnedTupleGo_zip (s := { s with heap := h', toks := tk }) z' fun hh z2 sb => ?_⟩
    have hT2 : hh.get? s.heap.objs.size = some { cls := .type "tuple", data := .seq #[u, v] } := (sb.2 _ (Nat.ne_of_gt zl)).trans hT
    have made : ObjOk X.prog X.w (upd H s.heap.objs.size (.tup [x, y])) hh s.heap.objs.size (.tup [x, y]) := ⟨by show 2 ≤ sizeLine; decide, [u, v], .cons ru (.cons rv .nil), ⟨_, hT2, rfl, _, rfl⟩⟩
    have I1 : Inv X pins σ (upd H s.heap.objs.size (.tup [x, y])) { s with heap := hh, toks := tk } :=
      I.turnedNew (ch := [z, TI, TO, i1, i2]) (fun c o hb q => (sb.2 c (fun e => hb (by simp [e]))).trans (hk c o (fun e => hb (by simp [e])) (fun e => hb (by simp [e])) (fun e => hb (by simp [e])) (fun e => hb (by simp [e])) q)) hf (Nat.le_refl _) made
    have zi1 : i1 ≠ z := fun e => S.zi1 e.symm
    have zi2 : i2 ≠ z := fun e => S.zi2 e.symm
    refine ⟨.ref s.heap.objs.size, _, I1, rfl, ⟨_, x, y, rfl, I.hok.fresh (Nat.le_refl _), rfl, fun l hl => by rw [j1 l hl]; exact ex, fun l hl => by rw [j2 l hl]; exact ey, trivial⟩, ⟨z2, (sb.2 _ S.TIz).trans (hk _ _ S.TIz S.TITO S.TIi1 S.TIi2 hTI), ⟨u, v, (sb.2 _ S.TOz).trans TO'⟩, itB_keep s1.1 (fun o q => (sb.2 _ zi1).trans q), itB_keep s2.1 (fun o q => (sb.2 _ zi2).trans q), n1, n2⟩, fun c hcm => ?_⟩
    have lt : c < s.heap.objs.size := by
      rcases (show c = z ∨ c = TI ∨ c = TO ∨ c = i1 ∨ c = i2 by simpa using hcm) with rfl | rfl | rfl | rfl | rfl
      · exact zl
      · exact Heap.lt_size hTI
      · exact Heap.lt_size hTO
      · obtain ⟨o, _, e, _⟩ := itB_obj h1; exact Heap.lt_size e
      · obtain ⟨o, _, e, _⟩ := itB_obj h2; exact Heap.lt_size e
    rw [upd_ne (Nat.ne_of_lt lt)]
    exact (hf c hcm).1
  done := by
    intro X hP hw hK hc i pins s σ H E I hf st hg
    subst hP hw hK
    obtain ⟨hz, hTI, ⟨x0, y0, hTO⟩, h1, h2, n1, n2⟩ := st
    obtain ⟨xs, ys, qx, qy, hend⟩ := hg
    obtain ⟨us, r1, p1, _, j1⟩ := seqB I qx
    obtain ⟨vs, r2, p2, _, j2⟩ := seqB I qy
    have l1 := r1.length
    have l2 := r2.length
    exact wpAny_pyNext_zipD2_end S (drawsB (A := X.A.in1) (I.ok.hd hc) i1 a n1 us.toArray) (drawsB (A := X.A.in1) (I.ok.hd hc) i2 b n2 vs.toArray) hz hTI hTO ⟨h1, p1⟩ ⟨h2, p2⟩ (by rw [List.size_toArray]; omega) (by rw [List.size_toArray]; omega) (by rw [List.size_toArray, List.size_toArray]; omega) fun h' tk hk =>
      ⟨rfl, I.turnedL (ch := [z, TI, TO, i1, i2]) (fun c o hb q => hk c o (fun e => hb (by simp [e])) (fun e => hb (by simp [e])) (fun e => hb (by simp [e])) (fun e => hb (by simp [e])) q) hf⟩
  self := fun A i s Q E st h => wpAny_pyIter_zip st.1 h
end
section
variable {X : Cx} {tg a b c e e2 : Expr} {we : WE} {pos p p2 tpos : Pos} {es elts : List Expr} {ua : WA} {kk : Nat}
theorem pi_zipX {ta : TA} (hg : Gl X "zip") (hm : X.mg "zip" = none) (ha : PA X [e, e2] ta) (hs : starEach [e, e2] X.env = (false, eval e X.env) :: starEach [e2] X.env := by rfl) (hs2 : (backTo pos (starEach [e2] X.env)).any (·.1) = false := by rfl) :
    PI X (.Tuple elts kk tpos) (.Call (.Name "zip" p) [e, e2] [] pos) (fun σ H R => ta σ H fun vs H1 => ∃ f f2 a b xs ys, vs = [.ref a, .ref b] ∧ SqB f X.K H1 a xs ∧ SqB f2 X.K H1 b ys ∧ R (ItX f f2 X.K a b) H1) := by
  refine ⟨fun pins s σ H R I q => Call_ (ld_blt I hg hm PyProof.Rows.boot_zip (PyProof.Rows.callWith_type1 (thn (ha.run pos pins s σ H _ I q) fun us s1 ⟨vs, H1, I1, r1, q1⟩ => ?_) hs hs2))⟩
  obtain ⟨f, f2, a, b, xs, ys, rfl, qx, qy, q1⟩ := q1
  obtain ⟨u, v, rfl, ru, rv⟩ := vals2 r1
  cases ru
  cases rv
  obtain ⟨us, _, p1, ⟨o1, _, _, g1, _⟩, _⟩ := seqB I1 qx
  obtain ⟨vs, _, p2, ⟨o2, _, _, g2, _⟩, _⟩ := seqB I1 qy
  have la : a < s1.heap.objs.size := Heap.lt_size g1
  have lb : b < s1.heap.objs.size := Heap.lt_size g2
  refine zip_begins2 (beginsB a us.toArray) (beginsB b vs.toArray) p1 p2 fun h' hz hTI hTO h1 h2 _ hk => wpAny_pyIter_zip hz ?_
  have I2 : Inv X pins σ H1 { s1 with heap := h' } := I1.kept (t' := s1.toks) hk
  refine ⟨s1.heap.objs.size + 4, [s1.heap.objs.size + 4, s1.heap.objs.size + 2, s1.heap.objs.size + 3, s1.heap.objs.size, s1.heap.objs.size + 1], _, _, H1, rfl, I2, turn_zipX (zip_sep2 (fun c hc => by rw [List.mem_singleton.mp hc]; exact la) (fun c hc => by rw [List.mem_singleton.mp hc]; exact lb)), ⟨hz, hTI, ⟨_, _, hTO⟩, itB_new h1, itB_new h2, Nat.ne_of_lt la, Nat.ne_of_lt (Nat.lt_succ_of_lt lb)⟩, fun c hc => ?_, q1⟩
  have le : s1.heap.objs.size ≤ c := by
    rcases (show c = s1.heap.objs.size + 4 ∨ c = s1.heap.objs.size + 2 ∨ c = s1.heap.objs.size + 3 ∨ c = s1.heap.objs.size ∨ c = s1.heap.objs.size + 1 by simpa using hc) with z | z | z | z | z <;> (rw [z]; first | exact Nat.le_add_right _ _ | exact Nat.le_refl _)
  exact I1.fpOk le (I1.hok.fresh le)
theorem walk_zipX {f f2 : Bool} {K : PySem.W.Frag} {a b : Addr} {xs ys : List V} {n : Nat} (hn : n = min xs.length ys.length) : Walk (ItX f f2 K a b) n (fun H => SqB f K H a xs ∧ SqB f2 K H b ys) (YPair (fun i => xs[i]?) (fun i => ys[i]?)) := by
  subst hn
  refine ⟨fun i H hi ⟨q1, q2⟩ => ?_, fun H ⟨q1, q2⟩ => ⟨xs, ys, q1, q2, rfl⟩, fun i H v H' _ ⟨q1, q2⟩ ⟨T, x, y, e1, e2, e3, e4, e5, _⟩ => ⟨T, x, y, e1, e2, e3, e4 xs q1, e5 ys q2⟩⟩
  exact ⟨xs, ys, xs[i], ys[i], q1, q2, List.getElem?_eq_getElem (by omega), List.getElem?_eq_getElem (by omega), trivial⟩
theorem dp_sqB {K : PySem.W.Frag} {G : Hp} {v : V} {d : PyData} {ds : List PyData} (h : Dp K G v d) (e : d = .list ds ∨ d = .tuple ds) : ∃ f a xs, v = .ref a ∧ SqB f K G a xs ∧ DpAll K G xs ds := by
  rcases e with rfl | rfl
  · cases h with
    | lst hs ha => exact ⟨true, _, _, rfl, hs, ha⟩
  · cases h with
    | tup hs ha => exact ⟨false, _, _, rfl, .inl (.inl hs), ha⟩
theorem di_zip (hg : Gl X "zip") (hm : X.mg "zip" = none) (ha : DA X [e, e2] ua) (hs : starEach [e, e2] X.env = (false, eval e X.env) :: starEach [e2] X.env := by rfl) (hs2 : (backTo pos (starEach [e2] X.env)).any (·.1) = false := by rfl) : DI X (.Tuple elts kk tpos) (.Call (.Name "zip" p) [e, e2] [] pos) (wZip ua) := by
  refine pi_weak (pi_zipX hg hm ha hs hs2) fun σ H R ⟨O, δ, P, R0, w, f⟩ => ?_
  refine ⟨O, δ, _, R0, w, fun rs δ1 vs H1 w1 s1 R1 k1 => ?_⟩
  have dp := RvsOk.dp R0 R1 k1 w1.1
  obtain ⟨_, w1⟩ := w1
  have go : ∀ d1 d2 xs ys, rs.map Rv.as = [d1, d2] → (d1 = .list xs ∨ d1 = .tuple xs) → (d2 = .list ys ∨ d2 = .tuple ys) → P (zipD xs ys) δ1 → ∃ f f2 a b xs ys, vs = [.ref a, .ref b] ∧ SqB f X.K H1 a xs ∧ SqB f2 X.K H1 b ys ∧ R (ItX f f2 X.K a b) H1 := fun d1 d2 xs ys q q1 q2 pp => by
    rw [q] at dp
    cases dp with
    | cons h1 h2 =>
      cases h2 with
      | cons h2 h3 =>
        cases h3
        obtain ⟨g1, a, us, rfl, z1, ha⟩ := dp_sqB h1 q1
        obtain ⟨g2, b, zs, rfl, z2, hb⟩ := dp_sqB h2 q2
        exact ⟨g1, g2, a, b, us, zs, rfl, sqB_mono hid_le z1, sqB_mono hid_le z2, f _ _ _ _ pp s1 R1 (walkd_pair (walk_zipX rfl) (by rw [zipD_len, da_len ha, da_len hb]) (fun H2 s => ⟨sqB_mono s z1, sqB_mono s z2⟩) (zip_dp ha hb))⟩
  split at w1
  · rename_i q; exact go _ _ _ _ q (.inr rfl) (.inr rfl) w1
  · rename_i q; exact go _ _ _ _ q (.inl rfl) (.inl rfl) w1
  · rename_i q; exact go _ _ _ _ q (.inl rfl) (.inr rfl) w1
  · rename_i q; exact go _ _ _ _ q (.inr rfl) (.inl rfl) w1
  · exact w1.elim
end
end Dw

namespace Dw
open PySem PySem.Spec PyProof.Rows L2

/-! ### targets -/
abbrev WB := PyData → Dl → (Dl → Prop) → Prop
abbrev WBs := List PyData → Dl → (Dl → Prop) → Prop
/-- slots js are bound anew, the others stand -/
structure Bd (js : List Nat) (δ δ' : Dl) (σ σ' : L2.St) : Prop where
  lσ : σ'.length = σ.length
  lδ : δ'.length = δ.length
  eσ : ∀ (i : Nat), i ∉ js → σ'[i]? = σ[i]?
  eδ : ∀ (i : Nat), i ∉ js → δ'[i]? = δ[i]?
  no : ∀ (i : Nat) xs, i ∈ js → δ'[i]? ≠ some (Sl.o xs)
  nm : ∀ (i : Nat) xs, i ∈ js → δ'[i]? ≠ some (Sl.m xs)
theorem Bd.refl {δ : Dl} {σ : L2.St} : Bd [] δ δ σ σ := ⟨rfl, rfl, fun _ _ => rfl, fun _ _ => rfl, (fun _ _ z => nomatch z), (fun _ _ z => nomatch z)⟩
theorem Bd.trans {js ks : List Nat} {δ δ1 δ2 : Dl} {σ σ1 σ2 : L2.St} (a : Bd js δ δ1 σ σ1) (b : Bd ks δ1 δ2 σ1 σ2) : Bd (js ++ ks) δ δ2 σ σ2 := by
  refine ⟨b.lσ.trans a.lσ, b.lδ.trans a.lδ, fun i h => ?_, fun i h => ?_, fun i xs h => ?_, fun i xs h => ?_⟩
  · rw [List.mem_append, not_or] at h
    exact (b.eσ i h.2).trans (a.eσ i h.1)
  · rw [List.mem_append, not_or] at h
    exact (b.eδ i h.2).trans (a.eδ i h.1)
  · by_cases k : i ∈ ks
    · exact b.no i xs k
    · rw [b.eδ i k]
      exact a.no i xs ((List.mem_append.mp h).resolve_right k)
  · by_cases k : i ∈ ks
    · exact b.nm i xs k
    · rw [b.eδ i k]
      exact a.nm i xs ((List.mem_append.mp h).resolve_right k)
theorem rep_set {K : PySem.W.Frag} {O : Addr → Prop} {δ : Dl} {σ : L2.St} {H : Hp} {j : Nat} {v : V} {x : PyData} (R : Rep K O δ σ H) (d : Dp K (hid H O) v x) : Rep K O (δ.set j (.d x)) (σ.set j (some v)) H := by
  have hl : δ.length = σ.length := R.len
  refine ⟨by rw [List.length_set, List.length_set]; exact hl, fun i y e => ?_, fun i xs e => ?_, fun i k xs ys a e1 e2 e3 e4 => ?_, R.occ, R.ex.put rfl⟩
  · rw [get_set] at e ⊢
    by_cases h : j = i
    · rw [if_pos h] at e ⊢
      by_cases hj : j < δ.length
      · rw [if_pos hj] at e
        cases e
        exact ⟨v, by rw [if_pos (by omega)], d⟩
      · rw [if_neg hj] at e; cases e
    · rw [if_neg h] at e ⊢
      exact R.dat i y e
  · rw [get_set] at e ⊢
    by_cases h : j = i
    · rw [if_pos h] at e
      split at e <;> cases e
    · rw [if_neg h] at e ⊢
      exact R.lst i xs e
  · have c : ∀ (i : Nat) (xs : List PyData), (δ.set j (Sl.d x))[i]? = some (Sl.o xs) → δ[i]? = some (Sl.o xs) ∧ j ≠ i := fun i xs e => by
      rw [get_set] at e
      by_cases h : j = i
      · rw [if_pos h] at e
        split at e <;> cases e
      · rw [if_neg h] at e; exact ⟨e, h⟩
    obtain ⟨c1, n1⟩ := c i xs e1
    obtain ⟨c2, n2⟩ := c k ys e2
    rw [get_set, if_neg n1] at e3
    rw [get_set, if_neg n2] at e4
    exact R.inj i k xs ys a c1 c2 e3 e4
theorem bd_set {δ : Dl} {σ : L2.St} {j : Nat} {v : V} {x : PyData} : Bd [j] δ (δ.set j (.d x)) σ (σ.set j (some v)) := by
  refine ⟨List.length_set, List.length_set, fun i h => ?_, fun i h => ?_, fun i xs h => ?_, fun i xs h => ?_⟩
  · exact List.getElem?_set_ne (fun z => h (by simp [z]))
  · exact List.getElem?_set_ne (fun z => h (by simp [z]))
  · obtain rfl : i = j := by simpa using h
    rw [get_set, if_pos rfl]
    split
    · exact fun z => nomatch z
    · exact fun z => nomatch z
  · obtain rfl : i = j := by simpa using h
    rw [get_set, if_pos rfl]
    split
    · exact fun z => nomatch z
    · exact fun z => nomatch z
def liftG (K : PySem.W.Frag) (js : List Nat) (b : WB) : TG := fun v σ H Q => ∃ O δ x P, Rep K O δ σ H ∧ Dp K (hid H O) v x ∧ b x δ P ∧ ∀ δ' σ', P δ' → Bd js δ δ' σ σ' → Rep K O δ' σ' H → Q σ' H
def liftGs (K : PySem.W.Frag) (js : List Nat) (b : WBs) : TGs := fun vs σ H Q => ∃ O δ xs P, Rep K O δ σ H ∧ DpAll K (hid H O) vs xs ∧ b xs δ P ∧ ∀ δ' σ', P δ' → Bd js δ δ' σ σ' → Rep K O δ' σ' H → Q σ' H
def DG (X : Cx) (e : Expr) (js : List Nat) (b : WB) : Prop := PG X e (liftG X.K js b)
def DGs (X : Cx) (es : List Expr) (js : List Nat) (b : WBs) : Prop := PGs X es (liftGs X.K js b)
section
variable {X : Cx} {tg e : Expr} {pos : Pos} {es : List Expr} {js ks : List Nat} {b : WB} {bs : WBs}
theorem pg_weak {t t' : TG} (h : PG X tg t) (f : ∀ v σ H Q, t' v σ H Q → t v σ H Q) : PG X tg t' := ⟨fun pins s σ H v u Q I r q => h.run pins s σ H v u Q I r (f v σ H Q q)⟩
theorem pgs_weak {t t' : TGs} (h : PGs X es t) (f : ∀ v σ H Q, t' v σ H Q → t v σ H Q) : PGs X es t' := ⟨fun pins s σ H v u Q I r q => h.run pins s σ H v u Q I r (f v σ H Q q)⟩
def bN (j : Nat) : WB := fun x δ P => P (δ.set j (.d x))
theorem dg_name (j : Nat) {x : Str} (hN : X.N.Nodup) (hi : X.N[j]? = some x := by rfl) (hx : Loc X.env.scope x := by first | exact Or.inl rfl | exact Or.inr rfl) (hf : X.fn x = true ∨ X.env.scope.names.lookup x = some .local := by first | exact .inl rfl | exact .inr rfl) : DG X (.Name x pos) [j] (bN j) :=
  pg_weak (pg_name hN hi hx hf) fun v σ H Q ⟨O, δ, x, P, R, d, w, f⟩ => f _ _ w bd_set (rep_set R d)
def bNil : WBs := fun xs δ P => match xs with
  | [] => P δ
  | _ => False
def bCons (b : WB) (bs : WBs) : WBs := fun xs δ P => match xs with
  | x :: r => b x δ fun δ1 => bs r δ1 P
  | _ => False
theorem dgs_nil : DGs X [] [] bNil := pgs_weak pgs_nil fun v σ H Q ⟨O, δ, xs, P, R, d, w, f⟩ => by
  cases d with
  | nil => exact ⟨rfl, f _ _ w Bd.refl R⟩
  | cons _ _ => exact w.elim
theorem dgs_cons (h : DG X e js b) (h2 : DGs X es ks bs) (hs : (assignEach (e :: es) X.env).map (·.2) = assign e X.env :: (assignEach es X.env).map (·.2) := by rfl) : DGs X (e :: es) (js ++ ks) (bCons b bs) := by
  refine pgs_weak (pgs_cons h h2 hs) fun v σ H Q ⟨O, δ, xs, P, R, d, w, f⟩ => ?_
  cases d with
  | nil => exact w.elim
  | cons d1 d2 => exact ⟨_, _, rfl, O, δ, _, _, R, d1, w, fun δ1 σ1 w1 b1 R1 => ⟨O, δ1, _, P, R1, d2, w1, fun δ2 σ2 w2 b2 R2 => f _ _ w2 (b1.trans b2) R2⟩⟩
def bTup (n : Nat) (bs : WBs) : WB := fun x δ P => match x with
  | .tuple xs => xs.length = n ∧ bs xs δ P
  | _ => False
theorem dg_tup {k n : Nat} (hc : X.calm = true) (h : DGs X es js bs) (hn : (assignEach es X.env).length = n := by rfl) (hst : (assignEach es X.env).findIdx? (·.1) = none := by rfl) : DG X (.Tuple es k pos) js (bTup n bs) := by
  refine pg_weak (pg_tup hc h hn hst) fun v σ H Q ⟨O, δ, x, P, R, d, w, f⟩ => ?_
  cases x <;> first | exact False.elim w | skip
  cases d with
  | tup hs ha => exact ⟨_, _, rfl, st_mono hid_le (.inl (.inl hs)), by rw [da_len ha]; exact w.1, O, δ, _, P, R, ha, w.2, f⟩
end

/-! ### list comprehensions -/
def wipeD (δ : Dl) : List Nat → Dl
  | [] => δ
  | v :: vs => (wipeD δ vs).set v .un
def isUn : Option Sl → Bool
  | some .un => true
  | _ => false
def unAll (δ : Dl) (vs : List Nat) : Bool := vs.all fun v => isUn δ[v]?
theorem wipeD_len (δ : Dl) : ∀ vs, (wipeD δ vs).length = δ.length
  | [] => rfl
  | v :: vs => by show ((wipeD δ vs).set v .un).length = _; rw [List.length_set, wipeD_len δ vs]
theorem wipeD_get (δ : Dl) (i : Nat) : ∀ vs, (i ∉ vs → (wipeD δ vs)[i]? = δ[i]?) ∧ (i ∈ vs → (wipeD δ vs)[i]? = if i < δ.length then some .un else none)
  | [] => ⟨fun _ => rfl, fun z => nomatch z⟩
  | v :: vs => by
    obtain ⟨h1, h2⟩ := wipeD_get δ i vs
    show (_ → ((wipeD δ vs).set v .un)[i]? = _) ∧ (_ → ((wipeD δ vs).set v .un)[i]? = _)
    rw [get_set]
    by_cases h : v = i
    · rw [if_pos h, wipeD_len]
      subst h
      exact ⟨fun z => absurd (by simp) z, fun _ => rfl⟩
    · rw [if_neg h]
      refine ⟨fun z => h1 fun q => z (by simp [q]), fun z => h2 ?_⟩
      rcases List.mem_cons.mp z with q | q
      · exact absurd q.symm h
      · exact q
theorem wipe_get (σ : L2.St) (i : Nat) : ∀ vs, (i ∉ vs → (wipe σ vs)[i]? = σ[i]?)
  | [] => fun _ => rfl
  | v :: vs => fun h => by
    show ((wipe σ vs).set v none)[i]? = _
    rw [List.getElem?_set_ne (fun z => h (by simp [z])), wipe_get σ i vs fun q => h (by simp [q])]
theorem wipe_eq {σ σ2 : L2.St} {vs : List Nat} (hl : σ2.length = σ.length) (h : ∀ (i : Nat), i ∉ vs → σ2[i]? = σ[i]?) : wipe σ2 vs = wipe σ vs := by
  have key : ∀ (σ : L2.St) (i : Nat) (ws : List Nat), i ∈ ws → (wipe σ ws)[i]? = if i < σ.length then some none else none := by
    intro σ i ws
    induction ws with
    | nil => intro z; cases z
    | cons v ws ih =>
      intro z
      show ((wipe σ ws).set v none)[i]? = _
      rw [get_set]
      by_cases q : v = i
      · rw [if_pos q, wipe_length, q]
      · rw [if_neg q]
        exact ih ((List.mem_cons.mp z).resolve_left fun w => q w.symm)
  apply List.ext_getElem?
  intro i
  by_cases q : i ∈ vs
  · rw [key σ2 i vs q, key σ i vs q, hl]
  · rw [wipe_get _ _ _ q, wipe_get _ _ _ q, h i q]
theorem wipe_wipe {σ : L2.St} {vs : List Nat} : wipe (wipe σ vs) vs = wipe σ vs := wipe_eq (wipe_length σ vs) fun i h => wipe_get σ i vs h
/-- the block's slots forgotten -/
theorem rep_wipe {K : PySem.W.Frag} {O : Addr → Prop} {δ : Dl} {σ : L2.St} {H : Hp} (vs : List Nat) (R : Rep K O δ σ H) : Rep K O (wipeD δ vs) (wipe σ vs) H := by
  have at_ : ∀ (i : Nat) (s : Sl), s ≠ .un → (wipeD δ vs)[i]? = some s → i ∉ vs ∧ δ[i]? = some s := fun i s ns e => by
    by_cases q : i ∈ vs
    · rw [(wipeD_get δ i vs).2 q] at e
      split at e
      · exact absurd (Option.some.inj e).symm ns
      · cases e
    · rw [(wipeD_get δ i vs).1 q] at e
      exact ⟨q, e⟩
  refine ⟨by rw [wipeD_len, wipe_length]; exact R.len, fun i x e => ?_, fun i xs e => ?_, fun i j xs ys a e1 e2 e3 e4 => ?_, R.occ, R.ex.at fun i s n e => ?_⟩
  · obtain ⟨q, e⟩ := at_ i (.d x) (by intro z; cases z) e
    rw [wipe_get σ i vs q]
    exact R.dat i x e
  · obtain ⟨q, e⟩ := at_ i (.o xs) (by intro z; cases z) e
    rw [wipe_get σ i vs q]
    exact R.lst i xs e
  · obtain ⟨q1, e1⟩ := at_ i (.o xs) (by intro z; cases z) e1
    obtain ⟨q2, e2⟩ := at_ j (.o ys) (by intro z; cases z) e2
    rw [wipe_get σ i vs q1] at e3
    rw [wipe_get σ j vs q2] at e4
    exact R.inj i j xs ys a e1 e2 e3 e4
  · obtain ⟨q, e⟩ := at_ i s (by intro z; rw [z] at n; cases n) e
    exact ⟨e, wipe_get σ i vs q⟩
theorem unAll_wipe {δ : Dl} {vs : List Nat} (h : unAll δ vs = true) : wipeD δ vs = δ := by
  apply List.ext_getElem?
  intro i
  by_cases q : i ∈ vs
  · rw [(wipeD_get δ i vs).2 q]
    have := List.all_eq_true.mp h i q
    cases e : δ[i]? with
    | none => rw [e] at this; cases this
    | some s =>
      rw [e] at this
      cases s <;> first | cases this | skip
      rw [if_pos (List.getElem?_eq_some_iff.mp e).1]
  · exact (wipeD_get δ i vs).1 q
theorem wipeD_un {δ : Dl} {vs : List Nat} (hv : ∀ v ∈ vs, v < δ.length) : unAll (wipeD δ vs) vs = true := by
  refine List.all_eq_true.mpr fun v hv' => ?_
  rw [(wipeD_get δ v vs).2 hv', if_pos (hv v hv')]
  rfl
/-- the way through some turns of a block: like Stp, the slots vs apart -/
structure Blk (O : Addr → Prop) (D : Addr) (vs : List Nat) (δ δ' : Dl) (σ : L2.St) (H H' : Hp) : Prop where
  same : Same (hid H O) (hid H' O)
  frame : ∀ a, O a → a ≠ D → ¬ Own δ σ a → H' a = H a
  own : ∀ (i : Nat), i ∉ vs → ((∃ xs, δ'[i]? = some (Sl.o xs)) ↔ (∃ xs, δ[i]? = some (Sl.o xs)))
  dat : ∀ (i : Nat) (x : PyData), i ∉ vs → (δ'[i]? = some (Sl.d x) ↔ δ[i]? = some (Sl.d x))
  un : unAll δ' vs = true
  dct : ∀ (i : Nat) kvs, i ∉ vs → δ'[i]? = some (Sl.m kvs) → δ[i]? = some (Sl.m kvs)

def wGo (b : WB) (t : WT) (el : WE) (vs : List Nat) (k : List PyData → Dl → Prop) : List PyData → List PyData → Dl → Prop
  | [], acc, δ => k acc δ
  | x :: r, acc, δ => b x δ fun δ1 => t δ1 fun c δ2 => if c = true then el δ2 fun y δ3 => noB y = true ∧ wGo b t el vs k r (acc ++ [y.as]) (wipeD δ3 vs) else wGo b t el vs k r acc (wipeD δ2 vs)
def wLc (wi : WI) (b : WB) (t : WT) (el : WE) (vs : List Nat) : WE := fun δ P => wi δ fun ds δ1 => (ds.length ≤ 10000 ∧ unAll δ1 vs = true) ∧ wGo b t el vs (fun acc δ' => P (.l acc) δ') ds [] δ1

theorem Blk.ownI {O : Addr → Prop} {D : Addr} {vs : List Nat} {δ δ' : Dl} {σ : L2.St} {H H' : Hp} (B : Blk O D vs δ δ' σ H H') {a : Addr} (h : Own δ' σ a) : Own δ σ a := by
  obtain ⟨i, xs, e1, e2⟩ := h
  have hi : i ∉ vs := fun q => by
    have := List.all_eq_true.mp B.un i q
    rw [e1] at this
    cases this
  obtain ⟨ys, e⟩ := (B.own i hi).mp ⟨xs, e1⟩
  exact ⟨i, ys, e, e2⟩
theorem rep_upd {K : PySem.W.Frag} {O : Addr → Prop} {δ : Dl} {σ : L2.St} {H : Hp} {D : Addr} {o : HO} (R : Rep K O δ σ H) (hO : O D) (hn : ¬ Own δ σ D) (hd : ∀ us, H D ≠ some (.dT us)) : Rep K O δ σ (upd H D o) := by
  refine ⟨R.len, fun i x e => ?_, fun i xs e => ?_, R.inj, fun a z => ?_, R.ex.mv (fun _ z => z) (by rw [hid_upd hO]; exact Same.refl _) fun a us _ ea => upd_ne fun q => hd us (q ▸ ea)⟩
  · rw [hid_upd hO]; exact R.dat i x e
  · obtain ⟨a, vs, e1, z, e2, d⟩ := R.lst i xs e
    refine ⟨a, vs, e1, z, ?_, by rw [hid_upd hO]; exact d⟩
    rw [upd_ne fun q => hn ⟨i, xs, e, by rw [← q]; exact e1⟩]
    exact e2
  · by_cases q : a = D
    · exact ⟨o, by rw [q, upd_same]⟩
    · rw [upd_ne q]; exact R.occ a z
/-- where a block stands ahead of turn i -/
def At (K : PySem.W.Frag) (O : Addr → Prop) (D : Addr) (vs : List Nat) (δ0 : Dl) (σ0 : L2.St) (H0 : Hp) (b : WB) (t : WT) (el : WE) (k : List PyData → Dl → Prop) (ds : List PyData) (m : Nat) (i : Nat) (H : Hp) : Prop :=
  ∃ δ acc accD, Rep K O δ σ0 H ∧ Blk O D vs δ0 δ σ0 H0 H ∧ H D = some (.lst acc) ∧ DpAll K (hid H O) acc accD ∧ acc.length ≤ m + i ∧ wGo b t el vs k (ds.drop i) accD δ
theorem at_turn {K : PySem.W.Frag} {O : Addr → Prop} {D : Addr} {vs js : List Nat} {δ0 : Dl} {σ0 : L2.St} {H0 H H2 : Hp} {b : WB} {t : WT} {el : WE} {k : List PyData → Dl → Prop} {ds : List PyData} {m i : Nat} {x : V} {d : PyData}
    (hjs : ∀ j ∈ js, j ∈ vs) (hO : O D) (hD : ¬ Own δ0 σ0 D) (hσ : wipe σ0 vs = σ0) (hun : unAll δ0 vs = true) (hl0 : δ0.length = σ0.length) (hm : m + ds.length < sizeLine) (hd : ds[i]? = some d) (hA : At K O D vs δ0 σ0 H0 b t el k ds m i H) (hy : Yld K (hid H0 O) H x H2 d) :
    liftG K js b x σ0 H2 fun σ2 H3 => wipe σ2 vs = σ0 ∧ liftT K t σ2 H3 fun c H4 => if c = true then lift K el σ2 H4 fun y H5 => ∃ acc, H5 D = some (.lst acc) ∧ acc.length < sizeLine ∧ At K O D vs δ0 σ0 H0 b t el k ds m (i + 1) (upd H5 D (.lst (acc ++ [y])))
      else At K O D vs δ0 σ0 H0 b t el k ds m (i + 1) H4 := by
  obtain ⟨δ, acc, accD, R, B, eD, dA, lA, w⟩ := hA
  have hi : i < ds.length := (List.getElem?_eq_some_iff.mp hd).1
  have hdrop : ds.drop i = d :: ds.drop (i + 1) := by
    rw [List.drop_eq_getElem_cons hi]
    congr 1
    exact Option.some.inj ((List.getElem?_eq_getElem hi).symm.trans hd)
  rw [hdrop] at w
  have nD : ¬ Own δ σ0 D := fun z => hD (B.ownI z)
  -- the item
  have item : Same (hid H O) (hid H2 O) ∧ (∀ a, O a → H2 a = H a) ∧ Rep K O δ σ0 H2 ∧ Dp K (hid H2 O) x d := by
    rcases hy with ⟨rfl, dx⟩ | ⟨T, x1, x2, d1, d2, rfl, nT, rfl, rfl, h1, h2⟩
    · exact ⟨Same.refl _, fun _ _ => rfl, R, Dp.up dx B.same⟩
    · refine ⟨hid_new nT, fun a z => ?_, R.laid nT, .tup (xs := [x1, x2]) ?_ ?_⟩
      · obtain ⟨u, e⟩ := R.occ a z
        rw [upd_ne (ne_of_none e nT)]
      · rw [hid_no (R.fresh nT)]; exact upd_same
      · exact .cons (Dp.up (Dp.up h1 B.same) (hid_new nT)) (.cons (Dp.up (Dp.up h2 B.same) (hid_new nT)) .nil)
  obtain ⟨sm, fr, R2, dx⟩ := item
  refine ⟨O, δ, d, _, R2, dx, w, fun δ1 σ2 w1 bd R3 => ⟨?_, O, δ1, _, R3, w1, fun c δ2 H4 w2 s2 R4 => ?_⟩⟩
  · exact (wipe_eq bd.lσ fun j q => bd.eσ j fun z => q (hjs j z)).trans hσ
  have hw2 : wipe σ2 vs = σ0 := (wipe_eq bd.lσ fun j q => bd.eσ j fun z => q (hjs j z)).trans hσ
  have own1 : ∀ a, Own δ1 σ2 a → Own δ0 σ0 a := fun a ⟨j, zs, e1, e2⟩ => by
    have q : j ∉ js := fun z => bd.no j zs z e1
    rw [bd.eδ j q] at e1
    rw [bd.eσ j q] at e2
    exact B.ownI ⟨j, zs, e1, e2⟩
  -- from where the test or the element ends
  have fin : ∀ δ3 H5, Stp O δ1 δ3 σ2 H2 H5 → Rep K O δ3 σ2 H5 → Rep K O (wipeD δ3 vs) σ0 H5 ∧ Blk O D vs δ0 (wipeD δ3 vs) σ0 H0 H5 ∧ H5 D = some (.lst acc) ∧ DpAll K (hid H5 O) acc accD := fun δ3 H5 s R5 => by
    have R6 := rep_wipe vs R5
    rw [hw2] at R6
    refine ⟨R6, ⟨(B.same.trans sm).trans s.same, fun a oa na no => ?_, fun j q => ?_, fun j y q => ?_, wipeD_un fun v hv => ?_, fun j kvs q z => ?_⟩, ?_, DpAll.up dA (sm.trans s.same)⟩
    · rw [s.frame a oa fun z => no (own1 a z), fr a oa, B.frame a oa na no]
    · rw [(wipeD_get δ3 j vs).1 q]
      refine (s.own j).trans ?_
      rw [bd.eδ j fun z => q (hjs j z)]
      exact B.own j q
    · rw [(wipeD_get δ3 j vs).1 q]
      refine (s.dat j y).trans ?_
      rw [bd.eδ j fun z => q (hjs j z)]
      exact B.dat j y q
    · have h1 := List.all_eq_true.mp hun v hv
      have h2 : v < δ0.length := by
        cases e : δ0[v]? with
        | none => rw [e] at h1; cases h1
        | some _ => exact (List.getElem?_eq_some_iff.mp e).1
      rw [R5.len, bd.lσ, ← hl0]
      exact h2
    · rw [(wipeD_get δ3 j vs).1 q] at z
      have z := s.dct j kvs z
      rw [bd.eδ j fun z => q (hjs j z)] at z
      exact B.dct j kvs q z
    · rw [s.frame D hO fun z => hD (own1 D z), fr D hO]; exact eD
  cases c with
  | false =>
    obtain ⟨R6, B6, e6, d6⟩ := fin δ2 H4 s2 R4
    exact ⟨_, acc, accD, R6, B6, e6, d6, by omega, w2⟩
  | true =>
    refine ⟨O, δ2, _, R4, w2, fun y δ3 vy H5 w3 s3 R5 k3 => ?_⟩
    obtain ⟨ny, w3⟩ := w3
    obtain ⟨R6, B6, e6, d6⟩ := fin δ3 H5 (s2.trans s3) R5
    have n6 : ¬ Own (wipeD δ3 vs) σ0 D := fun z => hD (B6.ownI z)
    have dy : Dp K (hid H5 O) vy y.as := by
      cases y with
      | d x => exact k3
      | b i xs => cases ny
      | l xs =>
        obtain ⟨p, us, rfl, n, e, ha, hr⟩ := k3
        refine .lst (.inl (.inl ?_)) (DpAll.up ha (hid_sub fun a z => .inl z))
        rw [hid_no (R4.fresh n)]; exact e
    refine ⟨acc, e6, by omega, _, acc ++ [vy], accD ++ [y.as], rep_upd R6 hO n6 (by rw [e6]; exact fun us z => nomatch z), ⟨?_, fun a oa na no => ?_, B6.own, B6.dat, B6.un, B6.dct⟩, upd_same, ?_, by rw [List.length_append]; simp; omega, w3⟩
    · rw [hid_upd hO]; exact B6.same
    · rw [upd_ne na]; exact B6.frame a oa na no
    · rw [hid_upd hO]; exact da_app d6 (.cons dy .nil)

section
variable {X : Cx} {tg tg1 iter iter1 e elt : Expr} {we el : WE} {wi wi1 : WI} {pos p : Pos} {ifs ifs1 : List Expr} {scope : Scope} {own : List (Str × Nat)} {js js1 vs1 : List Nat} {b b1 : WB} {t t1 : WT}
def DTs (X : Cx) (es : List Expr) (w : WT) : Prop := PTs X es (liftT X.K w)
def wYes : WT := fun δ P => P true δ
theorem dts_nil : DTs X [] wYes := ⟨fun pins s σ H Q I ⟨O, δ, P, R, w, f⟩ => pts_nil.run pins s σ H Q I (f _ _ _ w Stp.refl R)⟩
theorem dts_one {c : Expr} (h : DT X c t) : DTs X [c] t := pts_one h
/-- the start: the new list is nobody's -/
theorem lc_start {K : PySem.W.Frag} {O : Addr → Prop} {δ : Dl} {σ : L2.St} {H1 : Hp} {D : Addr} {vs : List Nat} (R : Rep K O δ σ H1) (hD : H1 D = none) (hun : unAll δ vs = true) :
    Rep K (fun a => O a ∨ a = D) δ (wipe σ vs) (upd H1 D (.lst [])) ∧ ¬ Own δ (wipe σ vs) D := by
  have R1 := rep_wipe vs R
  rw [unAll_wipe hun] at R1
  have nO : ¬ O D := R.fresh hD
  have up : Same (hid H1 O) (hid (upd H1 D (.lst [])) fun a => O a ∨ a = D) := fun b x e => by
    obtain ⟨n, e⟩ := hid_some e
    have ne : b ≠ D := ne_of_none e hD
    rw [hid_no (fun z => z.elim n ne), upd_ne ne]; exact e
  refine ⟨⟨R1.len, fun i x e => ?_, fun i xs e => ?_, R1.inj, fun a z => ?_, R1.ex.mv (fun _ z => .inl z) up fun a us _ e => upd_ne (ne_of_none e hD)⟩, ?_⟩
  · obtain ⟨v, e1, d⟩ := R1.dat i x e
    exact ⟨v, e1, Dp.up d up⟩
  · obtain ⟨a, us, e1, z, e2, d⟩ := R1.lst i xs e
    exact ⟨a, us, e1, .inl z, by rw [upd_ne (ne_of_none e2 hD)]; exact e2, DpAll.up d up⟩
  · by_cases q : a = D
    · exact ⟨_, by rw [q, upd_same]⟩
    · obtain ⟨u, e⟩ := R.occ a (z.resolve_right q)
      exact ⟨u, by rw [upd_ne q]; exact e⟩
  · rintro ⟨i, xs, e1, e2⟩
    obtain ⟨a, us, e3, z, e4, _⟩ := R1.lst i xs e1
    rw [e3] at e2
    cases e2
    exact nO z
theorem lc_up {O : Addr → Prop} {H1 : Hp} {D : Addr} (hD : H1 D = none) : Same (hid H1 O) (hid (upd H1 D (.lst [])) fun a => O a ∨ a = D) := fun b x e => by
  obtain ⟨n, e⟩ := hid_some e
  have ne : b ≠ D := ne_of_none e hD
  rw [hid_no (fun z => z.elim n ne), upd_ne ne]; exact e
/-- the end -/
theorem lc_end {K : PySem.W.Frag} {O : Addr → Prop} {δ0 δ1 δ2 : Dl} {σ : L2.St} {H H1 H2 : Hp} {D : Addr} {vs : List Nat} {acc : List V} {accD : List PyData} (R0 : Rep K O δ0 σ H) (s1 : Stp O δ0 δ1 σ H H1) (R1 : Rep K O δ1 σ H1) (hD : H1 D = none) (hun : unAll δ1 vs = true)
    (R2 : Rep K (fun a => O a ∨ a = D) δ2 (wipe σ vs) H2) (B : Blk (fun a => O a ∨ a = D) D vs δ1 δ2 (wipe σ vs) (upd H1 D (.lst [])) H2) (eD : H2 D = some (.lst acc)) (dA : DpAll K (hid H2 fun a => O a ∨ a = D) acc accD) :
    Stp O δ0 δ2 σ H H2 ∧ Rep K O δ2 σ H2 ∧ RvOk K O σ δ2 H H2 (.ref D) (.l accD) := by
  have nO : ¬ O D := R1.fresh hD
  have nOwn : ¬ Own δ2 (wipe σ vs) D := fun z => (lc_start (vs := vs) R1 hD hun).2 (B.ownI z)
  have sub : Same (hid H2 fun a => O a ∨ a = D) (hid H2 O) := hid_sub fun a z => .inl z
  have iff_ : ∀ (i : Nat), i ∈ vs → (∀ xs, δ1[i]? ≠ some (Sl.o xs)) ∧ (∀ xs, δ2[i]? ≠ some (Sl.o xs)) ∧ (∀ x, δ1[i]? ≠ some (Sl.d x)) ∧ (∀ x, δ2[i]? ≠ some (Sl.d x)) := fun i hi => by
    have h1 := List.all_eq_true.mp hun i hi
    have h2 := List.all_eq_true.mp B.un i hi
    refine ⟨fun xs z => ?_, fun xs z => ?_, fun xs z => ?_, fun xs z => ?_⟩
    · rw [z] at h1; cases h1
    · rw [z] at h2; cases h2
    · rw [z] at h1; cases h1
    · rw [z] at h2; cases h2
  have st : Stp O δ1 δ2 σ H1 H2 := by
    refine ⟨((lc_up hD).trans B.same).trans sub, fun a oa no => ?_, fun i => ?_, fun i x => ?_, fun i kvs z => ?_⟩
    · have ne : a ≠ D := fun z => nO (z ▸ oa)
      rw [B.frame a (.inl oa) ne ?_, upd_ne ne]
      rintro ⟨i, xs, e1, e2⟩
      obtain ⟨e2, _⟩ := wipe_some e2
      exact no ⟨i, xs, e1, e2⟩
    · by_cases q : i ∈ vs
      · obtain ⟨h1, h2, _⟩ := iff_ i q
        exact ⟨fun ⟨xs, z⟩ => absurd z (h2 xs), fun ⟨xs, z⟩ => absurd z (h1 xs)⟩
      · exact B.own i q
    · by_cases q : i ∈ vs
      · obtain ⟨_, _, h1, h2⟩ := iff_ i q
        exact ⟨fun z => absurd z (h2 x), fun z => absurd z (h1 x)⟩
      · exact B.dat i x q
    · by_cases q : i ∈ vs
      · have := List.all_eq_true.mp B.un i q
        rw [z] at this
        cases this
      · exact B.dct i kvs q z
  have inj : ∀ (i j : Nat) (xs ys : List PyData) (a : Addr), δ2[i]? = some (Sl.o xs) → δ2[j]? = some (Sl.o ys) → σ[i]? = some (some (V.ref a)) → σ[j]? = some (some (V.ref a)) → i = j := fun i j xs ys a e1 e2 e3 e4 => by
    have c : ∀ (i : Nat) (xs : List PyData), δ2[i]? = some (Sl.o xs) → ∀ a, σ[i]? = some (some (V.ref a)) → (wipe σ vs)[i]? = some (some (V.ref a)) := fun i xs e a q => by
      rw [wipe_get σ i vs fun z => (iff_ i z).2.1 xs e]; exact q
    exact R2.inj i j xs ys a e1 e2 (c i xs e1 a e3) (c j ys e2 a e4)
  have mk2 : Mk K (fun a => O a ∨ a = D) δ2 σ H2 := R2.ex.at fun i s n e => by
    refine ⟨e, (wipe_get σ i vs fun q => ?_).symm⟩
    have := List.all_eq_true.mp B.un i q
    rw [e] at this
    cases s <;> first | (cases n; done) | (cases this; done)
  have RD : Rep K (fun a => O a ∨ a = D) δ2 σ H2 := by
    refine ⟨by rw [R2.len, wipe_length], fun i x e => ?_, fun i xs e => ?_, inj, R2.occ, mk2⟩
    · obtain ⟨v, e1, d⟩ := R2.dat i x e
      exact ⟨v, (wipe_some e1).1, d⟩
    · obtain ⟨a, us, e1, z, e2, d⟩ := R2.lst i xs e
      exact ⟨a, us, (wipe_some e1).1, z, e2, d⟩
  refine ⟨s1.trans st, ⟨by rw [R2.len, wipe_length], fun i x e => ?_, fun i xs e => ?_, inj, fun a z => R2.occ a (.inl z), ⟨fun i kvs e => ?_, mk2.i, fun i ks e => ?_⟩⟩, D, acc, rfl, fresh_back R0 R1 s1 hD, eD, dA, RD⟩
  · obtain ⟨v, e1, d⟩ := R2.dat i x e
    exact ⟨v, (wipe_some e1).1, Dp.up d sub⟩
  · obtain ⟨a, us, e1, z, e2, d⟩ := R2.lst i xs e
    refine ⟨a, us, (wipe_some e1).1, z.resolve_right fun q => nOwn ⟨i, xs, e, by rw [← q]; exact e1⟩, e2, DpAll.up d sub⟩
  · obtain ⟨a, us, e1, z, e2, d⟩ := mk2.m i kvs e
    have z : O a := z.resolve_right (fun q => by rw [q, eD] at e2; cases e2)
    exact ⟨a, us, e1, z, e2, KvOk.up sub d⟩
  · obtain ⟨b, e1, e2⟩ := mk2.k i ks e
    exact ⟨b, e1, sub _ _ e2⟩
theorem sz_ok {n : Nat} (h : n ≤ 10000) : 0 + n < sizeLine := by
  rw [Nat.zero_add]
  exact Nat.lt_of_le_of_lt h (by rw [sizeLine_eq]; decide)
theorem lift_lc {K : PySem.W.Frag} {vs : List Nat} (hjs : ∀ j ∈ js, j ∈ vs) {σ : L2.St} {H : Hp} {Q : VK} (q : lift K (wLc wi b t el vs) σ H Q) : tLc (liftI K wi) (liftG K js b) (liftT K t) (lift K el) vs σ H Q := by
  obtain ⟨O, δ, P, R0, w, f⟩ := q
  refine ⟨O, δ, _, R0, w, fun ds δ1 H1 J w1 s1 R1 wk D hD => ?_⟩
  obtain ⟨⟨hz, hun⟩, w1⟩ := w1
  obtain ⟨GG, Y, wk, hG, hY⟩ := wk
  obtain ⟨R2, nD⟩ := lc_start (vs := vs) R1 hD hun
  have hw : wipe (wipe σ vs) vs = wipe σ vs := wipe_wipe
  refine lc_it wk (At K (fun a => O a ∨ a = D) D vs δ1 (wipe σ vs) (upd H1 D (.lst [])) b t el (fun acc δ' => P (.l acc) δ') ds 0) ?_ ?_ ?_ ?_
  · exact ⟨δ1, [], [], R2, ⟨Same.refl _, fun _ _ _ _ => rfl, fun _ _ => Iff.rfl, fun _ _ _ => Iff.rfl, hun, fun _ _ _ z => z⟩, upd_same, .nil, Nat.le_refl _, w1⟩
  · rintro i H2 _ ⟨δ2, acc, accD, R3, B, _⟩
    exact hG H2 (((lc_up hD).trans B.same).trans hid_le)
  · intro i x H2 H3 hi2 hA hy
    have hA' := hA
    obtain ⟨δ2, acc, accD, R3, B, _⟩ := hA'
    have e : ds[i]? = some ds[i] := List.getElem?_eq_getElem hi2
    have yl := hY i H2 x H3 _ e (((lc_up hD).trans B.same).trans hid_le) hy
    have yl2 : Yld K (hid (upd H1 D (.lst [])) fun a => O a ∨ a = D) H2 x H3 ds[i] := by
      rcases yl with ⟨e1, d⟩ | ⟨T, x1, x2, d1, d2, e1, e2, e3, e4, h1, h2⟩
      · exact .inl ⟨e1, Dp.up d (lc_up hD)⟩
      · exact .inr ⟨T, x1, x2, d1, d2, e1, e2, e3, e4, Dp.up h1 (lc_up hD), Dp.up h2 (lc_up hD)⟩
    exact at_turn (js := js) hjs (.inr rfl) nD hw hun R2.len (sz_ok hz) e hA yl2
  · rintro H2 ⟨δ2, acc, accD, R3, B, eD, dA, _, w2⟩
    rw [List.drop_length] at w2
    obtain ⟨s3, R4, k4⟩ := lc_end R0 s1 R1 hD hun R3 B eD dA
    exact f _ _ _ _ w2 s3 R4 k4
theorem de_lc (hc : X.calm = true) (hN : X.N.Nodup) (hi : DI X tg iter wi) (ok : BlkOk X.N X.env.scope scope own)
    (hg : ∀ (s : Shared) (H : Hp) (C : Addr) (cl : List (Str × Addr)) (fp : List Addr), DG (X.blk s H scope (compEnvC scope cl C X.env) fp) tg js b) (ht : ∀ (s : Shared) (H : Hp) (C : Addr) (cl : List (Str × Addr)) (fp : List Addr), DTs (X.blk s H scope (compEnvC scope cl C X.env) fp) ifs t)
    (he : ∀ (s : Shared) (H : Hp) (C : Addr) (cl : List (Str × Addr)) (fp : List Addr), DE (X.blk s H scope (compEnvC scope cl C X.env) fp) elt el) (hjs : ∀ j ∈ js, j ∈ own.map (·.2) := by decide) (hs : ∀ x, foldedSetIterable iter X.env x = pure x := by intro _; rfl) :
    DE X (.ListComp elt [⟨tg, iter, ifs, 0⟩] scope pos) (wLc wi b t el (own.map (·.2))) := by
  exact pe_weak (pe_lc (wi := liftI X.K wi) (g := liftG X.K js b) (tt := liftT X.K t) (te := lift X.K el) hc hN hi ok hg ht he hs) fun σ H Q q => lift_lc hjs q
end
end Dw

namespace Dw
open PySem PySem.Spec PyProof.Rows L2
/-! ### two fors -/
def wGo2 (b : WB) (t : WT) (wi1 : WI) (b1 : WB) (t1 : WT) (el : WE) (vs vs1 : List Nat) (k : List PyData → Dl → Prop) : List PyData → List PyData → Dl → Prop
  | [], acc, δ => k acc δ
  | x :: r, acc, δ => b x δ fun δ1 => t δ1 fun c δ2 => if c = true then wi1 δ2 fun ds1 δ3 => (ds1.length ≤ 1000 ∧ unAll δ3 vs1 = true) ∧ wGo b1 t1 el vs1 (fun acc' δ4 => wGo2 b t wi1 b1 t1 el vs vs1 k r acc' (wipeD δ4 vs)) ds1 acc δ3
    else wGo2 b t wi1 b1 t1 el vs vs1 k r acc (wipeD δ2 vs)
def wLc2 (wi : WI) (b : WB) (t : WT) (wi1 : WI) (b1 : WB) (t1 : WT) (el : WE) (vs vs1 : List Nat) : WE := fun δ P => wi δ fun ds δ1 => (ds.length ≤ 1000 ∧ unAll δ1 vs = true) ∧ wGo2 b t wi1 b1 t1 el vs vs1 (fun acc δ' => P (.l acc) δ') ds [] δ1
def At2 (K : PySem.W.Frag) (O : Addr → Prop) (D : Addr) (vs vs1 : List Nat) (δ0 : Dl) (σ0 : L2.St) (H0 : Hp) (b : WB) (t : WT) (wi1 : WI) (b1 : WB) (t1 : WT) (el : WE) (k : List PyData → Dl → Prop) (ds : List PyData) (i : Nat) (H : Hp) : Prop :=
  ∃ δ acc accD, Rep K O δ σ0 H ∧ Blk O D vs δ0 δ σ0 H0 H ∧ H D = some (.lst acc) ∧ DpAll K (hid H O) acc accD ∧ acc.length ≤ 1000 * i ∧ wGo2 b t wi1 b1 t1 el vs vs1 k (ds.drop i) accD δ
theorem million {n : Nat} (h : n ≤ 1001000) : n < sizeLine := Nat.lt_of_le_of_lt h (by rw [sizeLine_eq]; decide)
theorem at_turn2 {K : PySem.W.Frag} {O : Addr → Prop} {D : Addr} {vs vs1 js js1 : List Nat} {δ0 : Dl} {σ0 : L2.St} {H0 H H2 : Hp} {b : WB} {t : WT} {wi1 : WI} {b1 : WB} {t1 : WT} {el : WE} {k : List PyData → Dl → Prop} {ds : List PyData} {i : Nat} {x : V} {d : PyData}
    (hjs : ∀ j ∈ js, j ∈ vs) (hjs1 : ∀ j ∈ js1, j ∈ vs1) (hvs : ∀ j ∈ vs1, j ∈ vs) (hO : O D) (hD : ¬ Own δ0 σ0 D) (hσ : wipe σ0 vs = σ0) (hun : unAll δ0 vs = true) (hl0 : δ0.length = σ0.length) (hz : ds.length ≤ 1000) (hd : ds[i]? = some d)
    (hA : At2 K O D vs vs1 δ0 σ0 H0 b t wi1 b1 t1 el k ds i H) (hy : Yld K (hid H0 O) H x H2 d) :
    liftG K js b x σ0 H2 fun σ2 H3 => wipe σ2 vs = σ0 ∧ liftT K t σ2 H3 fun c H4 => if c = true then liftI K wi1 σ2 H4 fun J1 H5 => ∃ W1 : Nat → Nat → Hp → Prop, (∃ m, W1 0 m H5) ∧ ∀ j n H, W1 j n H →
        (J1.stop j H ∧ At2 K O D vs vs1 δ0 σ0 H0 b t wi1 b1 t1 el k ds (i + 1) H) ∨ (J1.go j H ∧ ∃ Nx1 : Hp → Prop, (∀ H', Nx1 H' → ∃ k', k' < n ∧ W1 (j + 1) k' H') ∧ ∀ x H', J1.yld j H x H' → liftG K js1 b1 x (wipe σ2 vs1) H' fun σ3 H6 => wipe σ3 vs1 = wipe σ2 vs1 ∧ liftT K t1 σ3 H6 fun c H7 =>
          if c = true then lift K el σ3 H7 fun y H8 => ∃ acc, H8 D = some (.lst acc) ∧ acc.length < sizeLine ∧ Nx1 (upd H8 D (.lst (acc ++ [y]))) else Nx1 H7)
      else At2 K O D vs vs1 δ0 σ0 H0 b t wi1 b1 t1 el k ds (i + 1) H4 := by
  obtain ⟨δ, acc, accD, R, B, eD, dA, lA, w⟩ := hA
  have hi : i < ds.length := (List.getElem?_eq_some_iff.mp hd).1
  have hdrop : ds.drop i = d :: ds.drop (i + 1) := by
    rw [List.drop_eq_getElem_cons hi]
    congr 1
    exact Option.some.inj ((List.getElem?_eq_getElem hi).symm.trans hd)
  rw [hdrop] at w
  have item : Same (hid H O) (hid H2 O) ∧ (∀ a, O a → H2 a = H a) ∧ Rep K O δ σ0 H2 ∧ Dp K (hid H2 O) x d := by
    rcases hy with ⟨rfl, dx⟩ | ⟨T, x1, x2, d1, d2, rfl, nT, rfl, rfl, h1, h2⟩
    · exact ⟨Same.refl _, fun _ _ => rfl, R, Dp.up dx B.same⟩
    · refine ⟨hid_new nT, fun a z => ?_, R.laid nT, .tup (xs := [x1, x2]) ?_ ?_⟩
      · obtain ⟨u, e⟩ := R.occ a z
        rw [upd_ne (ne_of_none e nT)]
      · rw [hid_no (R.fresh nT)]; exact upd_same
      · exact .cons (Dp.up (Dp.up h1 B.same) (hid_new nT)) (.cons (Dp.up (Dp.up h2 B.same) (hid_new nT)) .nil)
  obtain ⟨sm, fr, R2, dx⟩ := item
  refine ⟨O, δ, d, _, R2, dx, w, fun δ1 σ2 w1 bd R3 => ⟨?_, O, δ1, _, R3, w1, fun c δ2 H4 w2 s2 R4 => ?_⟩⟩
  · exact (wipe_eq bd.lσ fun j q => bd.eσ j fun z => q (hjs j z)).trans hσ
  have hw2 : wipe σ2 vs = σ0 := (wipe_eq bd.lσ fun j q => bd.eσ j fun z => q (hjs j z)).trans hσ
  have own1 : ∀ a, Own δ1 σ2 a → Own δ0 σ0 a := fun a ⟨j, zs, e1, e2⟩ => by
    have q : j ∉ js := fun z => bd.no j zs z e1
    rw [bd.eδ j q] at e1
    rw [bd.eσ j q] at e2
    exact B.ownI ⟨j, zs, e1, e2⟩
  have hlen : ∀ v ∈ vs, v < δ0.length := fun v hv => by
    have h1 := List.all_eq_true.mp hun v hv
    cases e : δ0[v]? with
    | none => rw [e] at h1; cases h1
    | some _ => exact (List.getElem?_eq_some_iff.mp e).1
  cases c with
  | false =>
    have R6 := rep_wipe vs R4
    rw [hw2] at R6
    refine ⟨_, acc, accD, R6, ⟨(B.same.trans sm).trans s2.same, fun a oa na no => ?_, fun j q => ?_, fun j y q => ?_, wipeD_un fun v hv => ?_, fun j kvs q z => ?_⟩, ?_, DpAll.up dA (sm.trans s2.same), by omega, w2⟩
    · rw [s2.frame a oa fun z => no (own1 a z), fr a oa, B.frame a oa na no]
    · rw [(wipeD_get δ2 j vs).1 q]
      refine (s2.own j).trans ?_
      rw [bd.eδ j fun z => q (hjs j z)]
      exact B.own j q
    · rw [(wipeD_get δ2 j vs).1 q]
      refine (s2.dat j y).trans ?_
      rw [bd.eδ j fun z => q (hjs j z)]
      exact B.dat j y q
    · rw [R4.len, bd.lσ, ← hl0]; exact hlen v hv
    · rw [(wipeD_get δ2 j vs).1 q] at z
      have z := s2.dct j kvs z
      rw [bd.eδ j fun z => q (hjs j z)] at z
      exact B.dct j kvs q z
    · rw [s2.frame D hO fun z => hD (own1 D z), fr D hO]; exact eD
  | true =>
    refine ⟨O, δ2, _, R4, w2, fun ds1 δ3 H5 J1 w3 s3 R5 wk => ?_⟩
    obtain ⟨⟨hz1, hun1⟩, w3⟩ := w3
    obtain ⟨GG, Y, wk, hG, hY⟩ := wk
    have s23 := s2.trans s3
    have R6 : Rep K O δ3 (wipe σ2 vs1) H5 := by
      have := rep_wipe vs1 R5
      rw [unAll_wipe hun1] at this
      exact this
    have own3 : ∀ a, Own δ3 (wipe σ2 vs1) a → Own δ0 σ0 a := fun a ⟨j, zs, e1, e2⟩ => own1 a (s23.ownI ⟨j, zs, e1, (wipe_some e2).1⟩)
    have nD1 : ¬ Own δ3 (wipe σ2 vs1) D := fun z => hD (own3 D z)
    have eD5 : H5 D = some (.lst acc) := by rw [s23.frame D hO fun z => hD (own1 D z), fr D hO]; exact eD
    have hww : wipe (wipe σ2 vs1) vs = σ0 := by
      rw [← hw2]
      exact wipe_eq (wipe_length σ2 vs1) fun j q => wipe_get σ2 j vs1 fun z => q (hvs j z)
    refine ⟨fun j n H => n = ds1.length - j ∧ j ≤ ds1.length ∧ At K O D vs1 δ3 (wipe σ2 vs1) H5 b1 t1 el (fun acc' δ4 => wGo2 b t wi1 b1 t1 el vs vs1 k (ds.drop (i + 1)) acc' (wipeD δ4 vs)) ds1 (1000 * i) j H, ⟨ds1.length, by omega, Nat.zero_le _, δ3, acc, accD, R6, ⟨Same.refl _, fun _ _ _ _ => rfl, fun _ _ => Iff.rfl, fun _ _ _ => Iff.rfl, hun1, fun _ _ _ z => z⟩, eD5, DpAll.up dA (sm.trans s23.same), by omega, w3⟩, ?_⟩
    rintro j n H6 ⟨rfl, hj, hA⟩
    have hA' := hA
    obtain ⟨δ4, acc4, accD4, R7, B1, e7, d7, l7, w7⟩ := hA'
    have g6 : GG H6 := hG H6 (B1.same.trans hid_le)
    by_cases hlt : j < ds1.length
    · refine .inr ⟨wk.goes j H6 hlt g6, fun H' => At K O D vs1 δ3 (wipe σ2 vs1) H5 b1 t1 el (fun acc' δ4 => wGo2 b t wi1 b1 t1 el vs vs1 k (ds.drop (i + 1)) acc' (wipeD δ4 vs)) ds1 (1000 * i) (j + 1) H', fun H' q => ⟨ds1.length - (j + 1), by omega, rfl, hlt, q⟩, fun x' H' y => ?_⟩
      have e : ds1[j]? = some ds1[j] := List.getElem?_eq_getElem hlt
      have yl := hY j H6 x' H' _ e (B1.same.trans hid_le) (wk.yields j H6 x' H' hlt g6 y)
      exact at_turn (js := js1) hjs1 hO nD1 wipe_wipe hun1 R6.len (million (by omega)) e hA yl
    · have ej : j = ds1.length := by omega
      subst ej
      rw [List.drop_length] at w7
      refine .inl ⟨wk.stops H6 g6, ?_⟩
      have R8 := rep_wipe vs R7
      rw [hww] at R8
      refine ⟨_, acc4, accD4, R8, ⟨((B.same.trans sm).trans s23.same).trans B1.same, fun a oa na no => ?_, fun l q => ?_, fun l y q => ?_, wipeD_un fun v hv => ?_, fun l kvs q z => ?_⟩, e7, d7, by omega, w7⟩
      · rw [B1.frame a oa na fun z => no (own3 a z), s23.frame a oa fun z => no (own1 a z), fr a oa, B.frame a oa na no]
      · rw [(wipeD_get δ4 l vs).1 q]
        refine ((B1.own l fun z => q (hvs l z)).trans (s23.own l)).trans ?_
        rw [bd.eδ l fun z => q (hjs l z)]
        exact B.own l q
      · rw [(wipeD_get δ4 l vs).1 q]
        refine ((B1.dat l y fun z => q (hvs l z)).trans (s23.dat l y)).trans ?_
        rw [bd.eδ l fun z => q (hjs l z)]
        exact B.dat l y q
      · rw [R7.len, wipe_length, bd.lσ, ← hl0]; exact hlen v hv
      · rw [(wipeD_get δ4 l vs).1 q] at z
        have z := s23.dct l kvs (B1.dct l kvs (fun z => q (hvs l z)) z)
        rw [bd.eδ l fun z => q (hjs l z)] at z
        exact B.dct l kvs q z
section
variable {X : Cx} {tg tg1 iter iter1 e elt : Expr} {we el : WE} {wi wi1 : WI} {pos p : Pos} {ifs ifs1 : List Expr} {scope : Scope} {own : List (Str × Nat)} {js js1 vs1 : List Nat} {b b1 : WB} {t t1 : WT}
theorem lift_lc2 {K : PySem.W.Frag} {vs : List Nat} (hv : ∀ i ∈ vs1, i ∈ vs) (hjs : ∀ j ∈ js, j ∈ vs) (hjs1 : ∀ j ∈ js1, j ∈ vs1) {σ : L2.St} {H : Hp} {Q : VK} (q : lift K (wLc2 wi b t wi1 b1 t1 el vs vs1) σ H Q) : tLc2 (liftI K wi) (liftG K js b) (liftT K t) (liftI K wi1) (liftG K js1 b1) (liftT K t1) (lift K el) vs vs1 σ H Q := by
  obtain ⟨O, δ, P, R0, w, f⟩ := q
  refine ⟨O, δ, _, R0, w, fun ds δ1 H1 J w1 s1 R1 wk D hD => ?_⟩
  obtain ⟨⟨hz, hun⟩, w1⟩ := w1
  obtain ⟨GG, Y, wk, hG, hY⟩ := wk
  obtain ⟨R2, nD⟩ := lc_start (vs := vs) R1 hD hun
  refine ⟨fun i n H => n = ds.length - i ∧ i ≤ ds.length ∧ At2 K (fun a => O a ∨ a = D) D vs vs1 δ1 (wipe σ vs) (upd H1 D (.lst [])) b t wi1 b1 t1 el (fun acc δ' => P (.l acc) δ') ds i H, ⟨ds.length, by omega, Nat.zero_le _, δ1, [], [], R2, ⟨Same.refl _, fun _ _ _ _ => rfl, fun _ _ => Iff.rfl, fun _ _ _ => Iff.rfl, hun, fun _ _ _ z => z⟩, upd_same, .nil, Nat.zero_le _, w1⟩, ?_⟩
  rintro i n H2 ⟨rfl, hi2, hA⟩
  have hA' := hA
  obtain ⟨δ2, acc, accD, R3, B, eD, dA, _, w2⟩ := hA'
  have sm2 : Same (hid H1 O) H2 := ((lc_up hD).trans B.same).trans hid_le
  have g2 := hG H2 sm2
  by_cases hlt : i < ds.length
  · refine .inr ⟨wk.goes i H2 hlt g2, fun H' => At2 K (fun a => O a ∨ a = D) D vs vs1 δ1 (wipe σ vs) (upd H1 D (.lst [])) b t wi1 b1 t1 el (fun acc δ' => P (.l acc) δ') ds (i + 1) H', fun H' q => ⟨ds.length - (i + 1), by omega, rfl, hlt, q⟩, fun x H3 y => ?_⟩
    have e : ds[i]? = some ds[i] := List.getElem?_eq_getElem hlt
    have yl := hY i H2 x H3 _ e sm2 (wk.yields i H2 x H3 hlt g2 y)
    have yl2 : Yld K (hid (upd H1 D (.lst [])) fun a => O a ∨ a = D) H2 x H3 ds[i] := by
      rcases yl with ⟨e1, d⟩ | ⟨T, x1, x2, d1, d2, e1, e2, e3, e4, h1, h2⟩
      · exact .inl ⟨e1, Dp.up d (lc_up hD)⟩
      · exact .inr ⟨T, x1, x2, d1, d2, e1, e2, e3, e4, Dp.up h1 (lc_up hD), Dp.up h2 (lc_up hD)⟩
    exact at_turn2 (js := js) (js1 := js1) hjs hjs1 hv (.inr rfl) nD wipe_wipe hun R2.len hz e hA yl2
  · have ei : i = ds.length := by omega
    subst ei
    rw [List.drop_length] at w2
    obtain ⟨s3, R4, k4⟩ := lc_end R0 s1 R1 hD hun R3 B eD dA
    exact .inl ⟨wk.stops H2 g2, f _ _ _ _ w2 s3 R4 k4⟩
theorem de_lc2 (hc : X.calm = true) (hN : X.N.Nodup) (hi : DI X tg iter wi) (ok : BlkOk X.N X.env.scope scope own) (hv : ∀ i ∈ vs1, i ∈ own.map (·.2))
    (hg : ∀ (s : Shared) (H : Hp) (C : Addr) (cl : List (Str × Addr)) (fp : List Addr), DG (X.blk s H scope (compEnvC scope cl C X.env) fp) tg js b) (ht : ∀ (s : Shared) (H : Hp) (C : Addr) (cl : List (Str × Addr)) (fp : List Addr), DTs (X.blk s H scope (compEnvC scope cl C X.env) fp) ifs t)
    (hi1 : ∀ (s : Shared) (H : Hp) (C : Addr) (cl : List (Str × Addr)) (fp : List Addr), DI (X.blk s H scope (compEnvC scope cl C X.env) fp) tg1 iter1 wi1)
    (hg1 : ∀ (s : Shared) (H : Hp) (C : Addr) (cl : List (Str × Addr)) (fp : List Addr), DG (X.blk s H scope (compEnvC scope cl C X.env) fp) tg1 js1 b1) (ht1 : ∀ (s : Shared) (H : Hp) (C : Addr) (cl : List (Str × Addr)) (fp : List Addr), DTs (X.blk s H scope (compEnvC scope cl C X.env) fp) ifs1 t1)
    (he : ∀ (s : Shared) (H : Hp) (C : Addr) (cl : List (Str × Addr)) (fp : List Addr), DE (X.blk s H scope (compEnvC scope cl C X.env) fp) elt el) (hjs : ∀ j ∈ js, j ∈ own.map (·.2) := by decide) (hjs1 : ∀ j ∈ js1, j ∈ vs1 := by decide) (hs : ∀ x, foldedSetIterable iter X.env x = pure x := by intro _; rfl) (hs1 : ∀ env x, foldedSetIterable iter1 env x = pure x := by intro _ _; rfl) :
    DE X (.ListComp elt [⟨tg, iter, ifs, 0⟩, ⟨tg1, iter1, ifs1, 0⟩] scope pos) (wLc2 wi b t wi1 b1 t1 el (own.map (·.2)) vs1) := by
  exact pe_weak (pe_lc2 (wi := liftI X.K wi) (g := liftG X.K js b) (tt := liftT X.K t) (wi1 := liftI X.K wi1) (g1 := liftG X.K js1 b1) (tt1 := liftT X.K t1) (te := lift X.K el) hc hN hi ok hv hg ht hi1 hg1 ht1 he hs hs1) fun σ H Q q => lift_lc2 hv hjs hjs1 q
end
end Dw

namespace Dw
open PySem PySem.Spec PyProof.Rows L2

/-! ### statements -/
def OwnM (δ : Dl) (σ : L2.St) (a : Addr) : Prop := ∃ (i : Nat) (kvs : List (List Int × PyData)), δ[i]? = some (Sl.m kvs) ∧ σ[i]? = some (some (V.ref a))
structure Tr (O O' : Addr → Prop) (δ δ' : Dl) (σ σ' : L2.St) (H H' : Hp) : Prop where
  sub : ∀ a, O a → O' a
  same : Same (hid H O) (hid H' O')
  new : ∀ a, O' a → O a ∨ H a = none
  frame : ∀ a, O a → ¬ Own δ σ a → ¬ OwnM δ σ a → H' a = H a
  keep : ∀ xs a, δ[0]? = some (Sl.o xs) → σ[0]? = some (some (V.ref a)) → (∃ ys, δ'[0]? = some (Sl.o ys)) ∧ σ'[0]? = some (some (V.ref a))
  own : ∀ a, Own δ' σ' a → Own δ σ a ∨ H a = none
  ownM : ∀ a, OwnM δ' σ' a → OwnM δ σ a ∨ H a = none
section
variable {K : PySem.W.Frag} {O O1 O2 : Addr → Prop} {δ δ1 δ2 : Dl} {σ σ1 σ2 : L2.St} {H H1 H2 : Hp} {v : V} {r : Rv}
theorem Tr.back (R : Rep K O δ σ H) (R1 : Rep K O1 δ1 σ1 H1) (a : Tr O O1 δ δ1 σ σ1 H H1) {p : Addr} (h : H1 p = none) : H p = none := by
  cases q : H p with
  | none => rfl
  | some o =>
    by_cases z : O p
    · obtain ⟨u, e⟩ := R1.occ p (a.sub p z)
      rw [h] at e; cases e
    · have := (hid_some (a.same p o (by rw [hid_no z]; exact q))).2
      rw [h] at this; cases this
theorem Tr.trans (R : Rep K O δ σ H) (R1 : Rep K O1 δ1 σ1 H1) (a : Tr O O1 δ δ1 σ σ1 H H1) (b : Tr O1 O2 δ1 δ2 σ1 σ2 H1 H2) : Tr O O2 δ δ2 σ σ2 H H2 := by
  refine ⟨fun x z => b.sub x (a.sub x z), a.same.trans b.same, fun x z => ?_, fun x z n nm => ?_, fun xs x e1 e2 => ?_, fun x z => ?_, fun x z => ?_⟩
  · rcases b.new x z with q | q
    · exact a.new x q
    · exact .inr (a.back R R1 q)
  · refine (b.frame x (a.sub x z) (fun q => ?_) fun q => ?_).trans (a.frame x z n nm)
    · rcases a.own x q with w | w
      · exact n w
      · obtain ⟨u, e⟩ := R.occ x z
        rw [w] at e; cases e
    · rcases a.ownM x q with w | w
      · exact nm w
      · obtain ⟨u, e⟩ := R.occ x z
        rw [w] at e; cases e
  · obtain ⟨⟨ys, q1⟩, q2⟩ := a.keep xs x e1 e2
    exact b.keep ys x q1 q2
  · rcases b.own x z with q | q
    · exact a.own x q
    · exact .inr (a.back R R1 q)
  · rcases b.ownM x z with q | q
    · exact a.ownM x q
    · exact .inr (a.back R R1 q)
theorem Tr.refl : Tr O O δ δ σ σ H H := ⟨fun _ z => z, Same.refl _, fun _ z => .inl z, fun _ _ _ _ => rfl, fun xs a e1 e2 => ⟨⟨xs, e1⟩, e2⟩, fun _ z => .inl z, fun _ z => .inl z⟩
theorem Stp.tr (s : Stp O δ δ1 σ H H1) : Tr O O δ δ1 σ σ H H1 := ⟨fun _ z => z, s.same, fun _ z => .inl z, fun a z n _ => s.frame a z n, fun xs a e1 e2 => ⟨(s.own 0).mpr ⟨xs, e1⟩, e2⟩, fun _ z => .inl (s.ownI z), fun _ ⟨i, kvs, e1, e2⟩ => .inl ⟨i, kvs, s.dct i kvs e1, e2⟩⟩
theorem Bd.tr {js : List Nat} (b : Bd js δ δ1 σ σ1) (h0 : 0 ∉ js) : Tr O O δ δ1 σ σ1 H H := by
  refine ⟨fun _ z => z, Same.refl _, fun _ z => .inl z, fun _ _ _ _ => rfl, fun xs a e1 e2 => ?_, fun a ⟨i, xs, e1, e2⟩ => ?_, fun a ⟨i, xs, e1, e2⟩ => ?_⟩
  · rw [b.eδ 0 h0, b.eσ 0 h0]; exact ⟨⟨xs, e1⟩, e2⟩
  · have q : i ∉ js := fun z => b.no i xs z e1
    rw [b.eδ i q] at e1
    rw [b.eσ i q] at e2
    exact .inl ⟨i, xs, e1, e2⟩
  · have q : i ∉ js := fun z => b.nm i xs z e1
    rw [b.eδ i q] at e1
    rw [b.eσ i q] at e2
    exact .inl ⟨i, xs, e1, e2⟩
end
structure DEnds where
  nx : Dl → Prop
  rt : Rv → Dl → Prop
  bk : Dl → Prop
  ct : Dl → Prop
abbrev WS := DEnds → Dl → Prop
structure EOk (K : PySem.W.Frag) (O : Addr → Prop) (δ : Dl) (σ : L2.St) (H : Hp) (P : DEnds) (D : Ends) : Prop where
  nx : ∀ O' δ' σ' H', P.nx δ' → Tr O O' δ δ' σ σ' H H' → Rep K O' δ' σ' H' → D.nx σ' H'
  rt : ∀ O' r δ' σ' v H', P.rt r δ' → Tr O O' δ δ' σ σ' H H' → Rep K O' δ' σ' H' → RvOk K O' σ' δ' H H' v r → D.rt v H'
  bk : ∀ O' δ' σ' H', P.bk δ' → Tr O O' δ δ' σ σ' H H' → Rep K O' δ' σ' H' → D.bk σ' H'
  ct : ∀ O' δ' σ' H', P.ct δ' → Tr O O' δ δ' σ σ' H H' → Rep K O' δ' σ' H' → D.ct σ' H'
section
variable {K : PySem.W.Frag} {O O1 O2 : Addr → Prop} {δ δ1 δ2 : Dl} {σ σ1 σ2 : L2.St} {H H1 H2 : Hp} {v : V} {r : Rv} {P : DEnds} {D : Ends}
theorem RvOk.backT (R : Rep K O δ σ H) (R1 : Rep K O1 δ1 σ1 H1) (a : Tr O O1 δ δ1 σ σ1 H H1) (h : RvOk K O2 σ2 δ2 H1 H2 v r) : RvOk K O2 σ2 δ2 H H2 v r := by
  cases r with
  | d x => exact h
  | b i xs => exact h
  | l xs =>
    obtain ⟨p, vs, e1, n, e, ha, hr⟩ := h
    exact ⟨p, vs, e1, a.back R R1 n, e, ha, hr⟩
theorem EOk.after (E : EOk K O δ σ H P D) (R : Rep K O δ σ H) (R1 : Rep K O1 δ1 σ1 H1) (a : Tr O O1 δ δ1 σ σ1 H H1) : EOk K O1 δ1 σ1 H1 P D :=
  ⟨fun O' δ' σ' H' p t R' => E.nx _ _ _ _ p (a.trans R R1 t) R', fun O' r δ' σ' v H' p t R' k => E.rt _ _ _ _ _ _ p (a.trans R R1 t) R' (RvOk.backT R R1 a k), fun O' δ' σ' H' p t R' => E.bk _ _ _ _ p (a.trans R R1 t) R', fun O' δ' σ' H' p t R' => E.ct _ _ _ _ p (a.trans R R1 t) R'⟩
end
def liftS (K : PySem.W.Frag) (w : WS) : TS := fun D σ H => ∃ O δ P, Rep K O δ σ H ∧ w P δ ∧ EOk K O δ σ H P D
def DS (X : Cx) (s : Stmt) (w : WS) : Prop := PS X s (liftS X.K w)
def DSs (X : Cx) (s : List Stmt) (w : WS) : Prop := PSs X s (liftS X.K w)
section
variable {X : Cx} {st : Stmt} {rest body orelse : List Stmt} {w w' wb : WS} {we wa wi' : WE} {wi : WI} {t : WT} {e tg iter c : Expr} {pos pos' : Pos} {b : WB} {js : List Nat} {i : Nat} {x : Str}
theorem ps_weak {s s' : TS} (h : PS X st s) (f : ∀ D σ H, s' D σ H → s D σ H) : PS X st s' := ⟨fun pins sh σ H D I q => h.run pins sh σ H D I (f D σ H q)⟩
theorem pss_weak {s s' : TS} (h : PSs X rest s) (f : ∀ D σ H, s' D σ H → s D σ H) : PSs X rest s' := ⟨fun pins sh σ H D I q => h.run pins sh σ H D I (f D σ H q)⟩
def wNext : WS := fun P δ => P.nx δ
def wThen (w w' : WS) : WS := fun P δ => w { P with nx := fun δ1 => w' P δ1 } δ
theorem ds_nil : DSs X [] wNext := pss_weak pss_nil fun D σ H ⟨O, δ, P, R, w, E⟩ => E.nx _ _ _ _ w Tr.refl R
theorem ds_cons (h : DS X st w) (h2 : DSs X rest w') : DSs X (st :: rest) (wThen w w') := by
  refine pss_weak (pss_cons h h2) fun D σ H ⟨O, δ, P, R, w, E⟩ => ?_
  exact ⟨O, δ, _, R, w, ⟨fun O' δ' σ' H' p t R' => ⟨O', δ', P, R', p, E.after R R' t⟩, E.rt, E.bk, E.ct⟩⟩
theorem ds_one (h : DS X st w) : DSs X [st] w := pss_one h
theorem ds_pass : DS X (.Pass pos) wNext := ps_weak ps_pass fun D σ H ⟨O, δ, P, R, w, E⟩ => E.nx _ _ _ _ w Tr.refl R
def wBrk : WS := fun P δ => P.bk δ
def wCnt : WS := fun P δ => P.ct δ
theorem ds_break : DS X (.Break pos) wBrk := ps_weak ps_break fun D σ H ⟨O, δ, P, R, w, E⟩ => E.bk _ _ _ _ w Tr.refl R
theorem ds_continue : DS X (.Continue pos) wCnt := ps_weak ps_continue fun D σ H ⟨O, δ, P, R, w, E⟩ => E.ct _ _ _ _ w Tr.refl R
def wNever : WS := fun _ _ => False
theorem ds_never : DS X st wNever := ps_weak ps_never fun D σ H ⟨O, δ, P, R, w, E⟩ => w
theorem dss_never : DSs X rest wNever := pss_weak pss_never fun D σ H ⟨O, δ, P, R, w, E⟩ => w
def wIfS (t : WT) (w w' : WS) : WS := fun P δ => t δ fun c δ1 => if c = true then w P δ1 else w' P δ1
theorem ds_if (hc : DT X c t) (h : DSs X body w) (h2 : DSs X orelse w') : DS X (.If c body orelse pos) (wIfS t w w') := by
  refine ps_weak (ps_if hc h h2) fun D σ H ⟨O, δ, P, R, w, E⟩ => ?_
  refine ⟨O, δ, _, R, w, fun k δ1 H1 w1 s1 R1 => ?_⟩
  cases k with
  | true => exact ⟨O, δ1, P, R1, w1, E.after R R1 s1.tr⟩
  | false => exact ⟨O, δ1, P, R1, w1, E.after R R1 s1.tr⟩
def wRet (w : WE) : WS := fun P δ => w δ fun r δ1 => P.rt r δ1
theorem ds_ret (h : DE X e we) : DS X (.Return (some e) pos) (wRet we) := by
  refine ps_weak (ps_ret h) fun D σ H ⟨O, δ, P, R, w, E⟩ => ?_
  exact ⟨O, δ, _, R, w, fun r δ1 v H1 w1 s1 R1 k1 => E.rt _ _ _ _ _ _ w1 s1.tr R1 k1⟩
def wRetN : WS := fun P δ => P.rt (.d .none) δ
theorem ds_retN : DS X (.Return none pos) wRetN := ps_weak ps_retN fun D σ H ⟨O, δ, P, R, w, E⟩ => E.rt _ _ _ _ _ _ w Tr.refl R .non
def wDrop (w : WE) : WS := fun P δ => w δ fun _ δ1 => P.nx δ1
theorem ds_expr (h : DE X e we) (hs : swapsWith e none pos.line X.env = pure false := by rfl) : DS X (.Expr e pos) (wDrop we) := by
  refine ps_weak (ps_expr h hs) fun D σ H ⟨O, δ, P, R, w, E⟩ => ?_
  exact ⟨O, δ, _, R, w, fun r δ1 v H1 w1 s1 R1 k1 => E.nx _ _ _ _ w1 s1.tr R1⟩
/-- what a name holds behind name = value -/
def putR (δ : Dl) (i : Nat) : Rv → Option Dl
  | .d x => some (δ.set i (.d x))
  | .l xs => some (δ.set i (.o xs))
  | .b _ _ => none
def wSet (i : Nat) (w : WE) : WS := fun P δ => w δ fun r δ1 => match putR δ1 i r with
  | some δ2 => P.nx δ2
  | none => False
theorem rep_setO {K : PySem.W.Frag} {O : Addr → Prop} {δ : Dl} {σ : L2.St} {H : Hp} {j : Nat} {p : Addr} {vs : List V} {xs : List PyData} (hp : ¬ Own δ σ p) (R : Rep K O δ σ H) (hO : O p) (e : H p = some (.lst vs)) (d : DpAll K (hid H O) vs xs) :
    Rep K O (δ.set j (.o xs)) (σ.set j (some (.ref p))) H := by
  have hl : δ.length = σ.length := R.len
  have c : ∀ (i : Nat) (ys : List PyData) (a : Addr), (δ.set j (Sl.o xs))[i]? = some (Sl.o ys) → (σ.set j (some (V.ref p)))[i]? = some (some (V.ref a)) → (i = j ∧ a = p) ∨ (i ≠ j ∧ δ[i]? = some (Sl.o ys) ∧ σ[i]? = some (some (V.ref a))) := fun i ys a e1 e2 => by
    rw [get_set] at e1 e2
    by_cases h : j = i
    · rw [if_pos h] at e2
      split at e2
      · cases e2; exact .inl ⟨h.symm, rfl⟩
      · cases e2
    · rw [if_neg h] at e1 e2
      exact .inr ⟨fun z => h z.symm, e1, e2⟩
  refine ⟨by rw [List.length_set, List.length_set]; exact hl, fun i y e => ?_, fun i ys q => ?_, fun i k ys zs a e1 e2 e3 e4 => ?_, R.occ, R.ex.put rfl⟩
  · rw [get_set] at e ⊢
    by_cases h : j = i
    · rw [if_pos h] at e
      split at e <;> cases e
    · rw [if_neg h] at e ⊢
      exact R.dat i y e
  · rw [get_set] at q ⊢
    by_cases h : j = i
    · rw [if_pos h] at q ⊢
      by_cases hj : j < δ.length
      · rw [if_pos hj] at q
        cases q
        exact ⟨p, vs, by rw [if_pos (by omega)], hO, e, d⟩
      · rw [if_neg hj] at q; cases q
    · rw [if_neg h] at q ⊢
      exact R.lst i ys q
  · rcases c i ys a e1 e3 with ⟨q1, q2⟩ | ⟨q1, q2, q3⟩ <;> rcases c k zs a e2 e4 with ⟨z1, z2⟩ | ⟨z1, z2, z3⟩
    · rw [q1, z1]
    · exact absurd ⟨k, zs, z2, by rw [← q2]; exact z3⟩ hp
    · exact absurd ⟨i, ys, q2, by rw [← z2]; exact q3⟩ hp
    · exact R.inj i k ys zs a q2 z2 q3 z3
/-- a value comes into a slot (not slot 0) -/
theorem put_ok {K : PySem.W.Frag} {O : Addr → Prop} {δ δ1 δ2 : Dl} {σ : L2.St} {H H1 : Hp} {v : V} {r : Rv} {i : Nat} (hi : i ≠ 0) (R : Rep K O δ σ H) (s : Stp O δ δ1 σ H H1) (R1 : Rep K O δ1 σ H1) (k : RvOk K O σ δ1 H H1 v r) (h : putR δ1 i r = some δ2) :
    ∃ O2, Tr O O2 δ δ2 σ (σ.set i (some v)) H H1 ∧ Rep K O2 δ2 (σ.set i (some v)) H1 := by
  cases r with
  | b j xs => cases h
  | d x =>
    cases h
    exact ⟨O, s.tr.trans R R1 (bd_set.tr (by simpa using fun z => hi z.symm)), rep_set R1 k⟩
  | l xs =>
    cases h
    obtain ⟨p, vs, rfl, n, e, ha, hr⟩ := k
    have np : ¬ Own δ1 σ p := fun ⟨j, ys, e1, e2⟩ => by
      obtain ⟨a, us, e3, z, _⟩ := R1.lst j ys e1
      rw [e3] at e2; cases e2
      exact R.fresh n z
    refine ⟨_, ⟨fun a z => .inl z, same_hide s.same n, fun a z => z.imp id fun q => by rw [q]; exact n, fun a oa no _ => s.frame a oa no, fun ys a e1 e2 => ?_, fun a ⟨j, ys, e1, e2⟩ => ?_, fun a ⟨j, ys, e1, e2⟩ => ?_⟩, rep_setO np hr (.inr rfl) e ha⟩
    · rw [List.getElem?_set_ne hi, List.getElem?_set_ne hi]
      exact ⟨(s.own 0).mpr ⟨ys, e1⟩, e2⟩
    · by_cases q : i = j
      · rw [get_set, if_pos q] at e2
        split at e2
        · cases e2; exact .inr n
        · cases e2
      · rw [List.getElem?_set_ne q] at e1 e2
        exact .inl (s.ownI ⟨j, ys, e1, e2⟩)
    · by_cases q : i = j
      · rw [get_set, if_pos q] at e1
        split at e1 <;> cases e1
      · rw [List.getElem?_set_ne q] at e1 e2
        exact .inl ⟨j, ys, s.dct j ys e1, e2⟩
theorem lift_set (hi : i ≠ 0) {K : PySem.W.Frag} {D : Ends} {σ : L2.St} {H : Hp} (q : liftS K (wSet i we) D σ H) : tAsg (lift K we) (gName i) D σ H := by
  obtain ⟨O, δ, P, R, w, E⟩ := q
  refine ⟨O, δ, _, R, w, fun r δ1 v H1 w1 s1 R1 k1 => ?_⟩
  split at w1
  · rename_i δ2 e
    obtain ⟨O2, tr, R2⟩ := put_ok hi R s1 R1 k1 e
    exact E.nx _ _ _ _ w1 tr R2
  · exact w1.elim
theorem ds_set (i : Nat) (hN : X.N.Nodup) (h : DE X e we) (h0 : i ≠ 0 := by decide) (hi : X.N[i]? = some x := by rfl) (hx : Loc X.env.scope x := by first | exact Or.inl rfl | exact Or.inr rfl) (hs : swapsWith e (some (.Name x pos')) pos.line X.env = pure false := by rfl)
    (hf : X.fn x = true ∨ X.env.scope.names.lookup x = some .local := by first | exact .inl rfl | exact .inr rfl) : DS X (.Assign [.Name x pos'] e pos) (wSet i we) :=
  ps_weak (ps_set hN hi hx h hs hf) fun _ _ _ => lift_set h0
/-- a, b = e -/
def wAsg (w : WE) (b : WB) : WS := fun P δ => w δ fun r δ1 => match r with
  | .d x => b x δ1 P.nx
  | _ => False
theorem ds_asg (h : DE X e we) (hg : DG X tg js b) (h0 : 0 ∉ js := by decide) (hs : swapsWithSole [tg] e pos.line X.env = pure false := by rfl) (hw : swappedStores [tg] e X.env = pure none := by rfl)
    (h1 : (assignEach [tg] X.env).map (·.2) = [assign tg X.env] := by rfl) : DS X (.Assign [tg] e pos) (wAsg we b) := by
  refine ps_weak (ps_asg h hg hs hw h1) fun D σ H ⟨O, δ, P, R, w, E⟩ => ?_
  refine ⟨O, δ, _, R, w, fun r δ1 v H1 w1 s1 R1 k1 => ?_⟩
  cases r with
  | l xs => exact w1.elim
  | b i xs => exact w1.elim
  | d x => exact ⟨O, δ1, x, _, R1, k1, w1, fun δ2 σ2 w2 bd R2 => E.nx _ _ _ _ w2 (s1.tr.trans R R1 (bd.tr h0)) R2⟩
/-- for -/
def wLoop (b : WB) (wb : WS) (P : DEnds) : List PyData → Dl → Prop
  | [], δ => P.nx δ
  | x :: r, δ => b x δ fun δ1 => wb { P with nx := wLoop b wb P r, ct := wLoop b wb P r, bk := P.nx } δ1
def wFor (wi : WI) (b : WB) (wb : WS) : WS := fun P δ => wi δ fun ds δ1 => wLoop b wb P ds δ1
theorem ds_for (hp : PassesOwn (model X.prog X.w) X.A X.env X.xe) (hc : X.calm = true) (hi : DI X tg iter wi) (hg : DG X tg js b) (hb : DSs X body wb) (h0 : 0 ∉ js := by decide)
    (hs : ∀ x, foldedSetIterable iter X.env x = pure x := by intro _; rfl) : DS X (.For tg iter body [] pos) (wFor wi b wb) := by
  refine ps_weak (ps_for hp hc hi hg hb hs) fun D σ H ⟨O, δ, P, R, w, E⟩ => ?_
  refine ⟨O, δ, _, R, w, fun ds δ1 H1 J w1 s1 R1 wk => ?_⟩
  obtain ⟨GG, Y, wk, hG, hY⟩ := wk
  have E1 := E.after R R1 s1.tr
  refine for_it wk (fun i σ' H' => ∃ O' δ', Rep X.K O' δ' σ' H' ∧ Tr O O' δ1 δ' σ σ' H1 H' ∧ wLoop b wb P (ds.drop i) δ') ⟨O, δ1, R1, Tr.refl, w1⟩ ?_ ?_ ?_
  · rintro i σ' H' _ ⟨O', δ', R', tr, _⟩
    exact hG H' (tr.same.trans hid_le)
  · rintro i x σ' H' H2 hi2 ⟨O', δ', R', tr, w2⟩ y
    have e : ds[i]? = some ds[i] := List.getElem?_eq_getElem hi2
    have yl := hY i H' x H2 _ e (tr.same.trans hid_le) y
    have hdrop : ds.drop i = ds[i] :: ds.drop (i + 1) := List.drop_eq_getElem_cons hi2
    rw [hdrop] at w2
    have item : Tr O' O' δ' δ' σ' σ' H' H2 ∧ Rep X.K O' δ' σ' H2 ∧ Dp X.K (hid H2 O') x ds[i] := by
      rcases yl with ⟨rfl, dx⟩ | ⟨T, x1, x2, d1, d2, rfl, nT, rfl, ed, h1, h2⟩
      · exact ⟨Tr.refl, R', Dp.up dx tr.same⟩
      · refine ⟨(Stp.laid R' nT).tr, R'.laid nT, ?_⟩
        rw [ed]
        refine .tup (xs := [x1, x2]) ?_ (.cons (Dp.up (Dp.up h1 tr.same) (hid_new nT)) (.cons (Dp.up (Dp.up h2 tr.same) (hid_new nT)) .nil))
        rw [hid_no (R'.fresh nT)]; exact upd_same
    obtain ⟨tr2, R2, dx⟩ := item
    refine ⟨O', δ', _, _, R2, dx, w2, fun δ3 σ3 w3 bd R3 => ⟨O', δ3, _, R3, w3, ?_⟩⟩
    have tr3 : Tr O O' δ1 δ3 σ σ3 H1 H2 := (tr.trans R1 R' tr2).trans R1 R2 (bd.tr h0)
    have E3 := E1.after R1 R3 tr3
    exact ⟨fun O4 δ4 σ4 H4 p t R4 => ⟨O4, δ4, R4, tr3.trans R1 R3 t, p⟩, E3.rt, fun O4 δ4 σ4 H4 p t R4 => E3.nx _ _ _ _ p t R4, fun O4 δ4 σ4 H4 p t R4 => ⟨O4, δ4, R4, tr3.trans R1 R3 t, p⟩⟩
  · rintro σ' H' ⟨O', δ', R', tr, w2⟩
    rw [List.drop_length] at w2
    exact E1.nx _ _ _ _ w2 tr R'
/-- while -/
def wWhile (t : WT) (wb : WS) : WS := fun P δ => ∃ I : Nat → Dl → Prop, (∃ n, I n δ) ∧ ∀ n δ, I n δ → t δ fun c δ1 => if c = true then wb { P with nx := fun δ2 => ∃ m, m < n ∧ I m δ2, ct := fun δ2 => ∃ m, m < n ∧ I m δ2, bk := P.nx } δ1 else P.nx δ1
theorem ds_while (hp : PassesOwn (model X.prog X.w) X.A X.env X.xe) (hc : DT X c t) (hb : DSs X body wb) : DS X (.While c body [] pos) (wWhile t wb) := by
  refine ps_weak (ps_while hp hc hb) fun D σ H ⟨O, δ, P, R, ⟨I, ⟨n0, i0⟩, turn⟩, E⟩ => ?_
  refine ⟨fun n σ' H' => ∃ O' δ', Rep X.K O' δ' σ' H' ∧ Tr O O' δ δ' σ σ' H H' ∧ I n δ', ⟨n0, O, δ, R, Tr.refl, i0⟩, ?_⟩
  rintro n σ' H' ⟨O', δ', R', tr, hI⟩
  refine ⟨O', δ', _, R', turn n δ' hI, fun k δ1 H1 w1 s1 R1 => ?_⟩
  have tr1 := tr.trans R R' s1.tr
  have E1 := E.after R R1 tr1
  cases k with
  | false => exact E1.nx _ _ _ _ w1 Tr.refl R1
  | true =>
    refine ⟨fun σ2 H2 => ∃ m, m < n ∧ ∃ O' δ', Rep X.K O' δ' σ2 H2 ∧ Tr O O' δ δ' σ σ2 H H2 ∧ I m δ', fun σ2 H2 ⟨m, hm, q⟩ => ⟨m, hm, q⟩, O', δ1, _, R1, w1, ?_⟩
    exact ⟨fun O4 δ4 σ4 H4 ⟨m, hm, p⟩ t R4 => ⟨m, hm, O4, δ4, R4, tr1.trans R R1 t, p⟩, E1.rt, fun O4 δ4 σ4 H4 p t R4 => E1.nx _ _ _ _ p t R4, fun O4 δ4 σ4 H4 ⟨m, hm, p⟩ t R4 => ⟨m, hm, O4, δ4, R4, tr1.trans R R1 t, p⟩⟩
end
end Dw

namespace Dw
open PySem PySem.Spec PyProof.Rows L2

section
variable {K : PySem.W.Frag} {O : Addr → Prop} {δ δ1 : Dl} {σ : L2.St} {H H1 : Hp} {v : V} {r : Rv} {i : Nat} {xs ys : List PyData} {a : Addr} {vs : List V}
theorem rv_dp (R0 : Rep K O δ σ H) (k : RvOk K O σ δ1 H H1 v r) (n : noB r = true) : Dp K (hid H1 O) v r.as := by
  cases r with
  | d x => exact k
  | b i xs => cases n
  | l xs =>
    obtain ⟨p, us, rfl, n, e, ha, hr⟩ := k
    refine .lst (.inl (.inl ?_)) (DpAll.up ha (hid_sub fun a z => .inl z))
    rw [hid_no (R0.fresh n)]; exact e
theorem upd_own (R1 : Rep K O δ1 σ H1) (e : δ1[i]? = some (.o xs)) (ea : σ[i]? = some (some (.ref a))) (dp : DpAll K (hid H1 O) vs ys) : Stp O δ1 (δ1.set i (.o ys)) σ H1 (upd H1 a (.lst vs)) ∧ Rep K O (δ1.set i (.o ys)) σ (upd H1 a (.lst vs)) := by
  obtain ⟨a', us, e1, z, e2, d⟩ := R1.lst i xs e
  rw [ea] at e1; cases e1
  refine after_own R1 e ea ?_ (fun b _ nb => upd_ne nb) upd_same ?_
  · rw [hid_upd z]; exact Same.refl _
  · rw [hid_upd z]; exact dp
theorem da_erase : ∀ {vs : List V} {ds : List PyData} (j : Nat), DpAll K H vs ds → DpAll K H (vs.eraseIdx j) (ds.eraseIdx j)
  | [], _, _, h => by cases h; exact .nil
  | v0 :: vs, _, 0, h => by
    cases h with
    | cons h1 h2 => exact h2
  | v0 :: vs, _, j + 1, h => by
    cases h with
    | cons h1 h2 => exact .cons h1 (da_erase j h2)
end
section
variable {X : Cx} {e e2 ix : Expr} {we we2 wi : WE} {pos p apos cpos : Pos} {es : List Expr} {y : Str}
/-- y.append(e), y the slot's own list -/
def wApp1 (i : Nat) (P : Rv → Dl → Prop) (r : Rv) (δ1 : Dl) : Prop := match δ1[i]? with
  | some (.o xs) => xs.length < 100000 ∧ P (.d .none) (δ1.set i (.o (xs ++ [r.as])))
  | _ => False
def wApp (i : Nat) (w : WE) : WE := fun δ P => match δ[i]? with
  | some (.o _) => w δ fun r δ1 => noB r = true ∧ wApp1 i P r δ1
  | _ => False
theorem small5 {n : Nat} (h : n < 100000) : n < sizeLine := Nat.lt_of_lt_of_le h (by rw [sizeLine_eq]; decide)
theorem de_append (i : Nat) (he : DE X e we) (hN : X.N[i]? = some y := by rfl) (hv : Vis X.env.scope y := by first | exact Or.inl rfl | exact Or.inr (Or.inl rfl) | exact Or.inr (Or.inr rfl)) (hy : (y == ("__debug__" : Str)) = false := by decide) (hcd : (y == ("__classdict__" : Str)) = false := by decide)
    (hbase : attributeBase (.Name y p) "append" X.env (eval (.Name y p) X.env) = eval (.Name y p) X.env := by rfl)
    (hfew : ((backTo cpos (starEach [e] X.env)).all (fun x => !x.1) && (backToKw cpos (keywordEach [] X.env)).all (fun x => x.1.isSome) && decide ([e].length + ([] : List Keyword).length + (if ([] : List Keyword).isEmpty then 0 else 1) < 30)) = true := by rfl)
    (hline : (apos.endLine == cpos.line) = true := by rfl) (hs : starEach [e] X.env = (false, eval e X.env) :: starEach [] X.env := by rfl) :
    DE X (.Call (.Attribute (.Name y p) "append" apos) [e] [] cpos) (wApp i we) := by
  refine pe_weak (pe_bm PySem.F.plainAttrs_list PySem.F.slot_list_append PySem.F.type_list_append mt_append (pe_var hN hv hy hcd) (pa_cons he pa_nil hs) hbase hfew hline hs) fun σ H Q ⟨O, δ, P, R0, w, f⟩ => ?_
  unfold wApp at w
  split at w
  · rename_i xs0 e0
    obtain ⟨a, us, ea, oa, e2, _⟩ := R0.lst i xs0 e0
    refine ⟨.ref a, ea, .inl ⟨rfl, us, .inl (.inl e2)⟩, O, δ, _, R0, w, fun r δ1 v H1 w1 s1 R1 k1 => ?_⟩
    obtain ⟨n, w1⟩ := w1
    unfold wApp1 at w1
    split at w1
    · rename_i xs e1
      obtain ⟨a', vs, ea', oa', e3, d⟩ := R1.lst i xs e1
      rw [ea] at ea'; cases ea'
      have dv := rv_dp R0 k1 n
      obtain ⟨s2, R2⟩ := upd_own R1 e1 ea (da_app d (.cons dv .nil))
      exact ⟨a, vs, v, rfl, rfl, e3, small5 (by rw [da_len d]; exact w1.1), f _ _ _ _ w1.2 (s1.trans s2) R2 .non⟩
    · exact w1.elim
  · exact w.elim
/-- y.pop(e) -/
def wPop1 (i : Nat) (P : Rv → Dl → Prop) (r : Rv) (δ1 : Dl) : Prop := match δ1[i]?, r with
  | some (.o xs), .d (.int k) => match ixN xs.length k with
    | some j => match xs[j]? with
      | some z => xs.length < 100000 ∧ P (.d z) (δ1.set i (.o (xs.eraseIdx j)))
      | none => False
    | none => False
  | _, _ => False
def wPop (i : Nat) (w : WE) : WE := fun δ P => match δ[i]? with
  | some (.o _) => w δ fun r δ1 => wPop1 i P r δ1
  | _ => False
theorem de_popAt (i : Nat) (he : DE X e we) (hN : X.N[i]? = some y := by rfl) (hv : Vis X.env.scope y := by first | exact Or.inl rfl | exact Or.inr (Or.inl rfl) | exact Or.inr (Or.inr rfl)) (hy : (y == ("__debug__" : Str)) = false := by decide) (hcd : (y == ("__classdict__" : Str)) = false := by decide)
    (hbase : attributeBase (.Name y p) "pop" X.env (eval (.Name y p) X.env) = eval (.Name y p) X.env := by rfl)
    (hfew : ((backTo cpos (starEach [e] X.env)).all (fun x => !x.1) && (backToKw cpos (keywordEach [] X.env)).all (fun x => x.1.isSome) && decide ([e].length + ([] : List Keyword).length + (if ([] : List Keyword).isEmpty then 0 else 1) < 30)) = true := by rfl)
    (hline : (apos.endLine == cpos.line) = true := by rfl) (hs : starEach [e] X.env = (false, eval e X.env) :: starEach [] X.env := by rfl) :
    DE X (.Call (.Attribute (.Name y p) "pop" apos) [e] [] cpos) (wPop i we) := by
  refine pe_weak (pe_bm PySem.F.plainAttrs_list PySem.F.slot_list_pop PySem.F.type_list_pop mt_popAt (pe_var hN hv hy hcd) (pa_cons he pa_nil hs) hbase hfew hline hs) fun σ H Q ⟨O, δ, P, R0, w, f⟩ => ?_
  unfold wPop at w
  split at w
  · rename_i xs0 e0
    obtain ⟨a, us, ea, oa, e2, _⟩ := R0.lst i xs0 e0
    refine ⟨.ref a, ea, .inl ⟨rfl, us, .inl (.inl e2)⟩, O, δ, _, R0, w, fun r δ1 v H1 w1 s1 R1 k1 => ?_⟩
    unfold wPop1 at w1
    split at w1
    · rename_i xs k e1
      split at w1
      · rename_i j ej
        split at w1
        · rename_i z ez
          obtain ⟨a', vs, ea', oa', e3, d⟩ := R1.lst i xs e1
          rw [ea] at ea'; cases ea'
          have k1 : Dp X.K (hid H1 O) v (.int k) := k1
          cases k1
          obtain ⟨q1, q2, q3, q4⟩ := ixN_seq ej
          obtain ⟨vz, g1, g2⟩ := da_get d ez
          obtain ⟨s2, R2⟩ := upd_own R1 e1 ea (da_erase j d)
          have hz := w1.1
          exact ⟨a, vs, k, j, vz, rfl, rfl, e3, by omega, by omega, by rw [da_len d]; exact q1, g1, f _ _ _ _ w1.2 (s1.trans s2) R2 (by show Dp X.K (hid (upd H1 a (.lst (vs.eraseIdx j))) O) vz z; rw [hid_upd oa]; exact g2)⟩
        · exact w1.elim
      · exact w1.elim
    · exact w1.elim
  · exact w.elim
/-- y[ix] = e -/
def wSetI1 (i : Nat) (P : DEnds) (r s : Rv) (δ2 : Dl) : Prop := match δ2[i]?, s with
  | some (.o xs), .d (.int k) => match ixN xs.length k with
    | some j => P.nx (δ2.set i (.o (xs.set j r.as)))
    | none => False
  | _, _ => False
def wSetI (i : Nat) (wi w : WE) : WS := fun P δ => w δ fun r δ1 => noB r = true ∧ match δ1[i]? with
  | some (.o _) => wi δ1 fun s δ2 => wSetI1 i P r s δ2
  | _ => False
theorem ds_setI (i : Nat) (hix : DE X ix wi) (he : DE X e we) (hN : X.N[i]? = some y := by rfl) (hv : Vis X.env.scope y := by first | exact Or.inl rfl | exact Or.inr (Or.inl rfl) | exact Or.inr (Or.inr rfl)) (hy : (y == ("__debug__" : Str)) = false := by decide) (hcd : (y == ("__classdict__" : Str)) = false := by decide)
    (ha : ∀ v, assign (.Subscript (.Name y p) ix apos) X.env v = (do
      let ov ← holding [v] (eval (.Name y p) X.env)
      let iv ← holding [v, ov] (eval ix X.env)
      standAt apos
      holding [v, ov, iv] (setItem ov iv v)
      release [v, ov, iv] []) := by intro _; rfl)
    (hs : swapsWithSole [.Subscript (.Name y p) ix apos] e pos.line X.env = pure false := by rfl) (hw : swappedStores [.Subscript (.Name y p) ix apos] e X.env = pure none := by rfl)
    (h1 : (assignEach [.Subscript (.Name y p) ix apos] X.env).map (·.2) = [assign (.Subscript (.Name y p) ix apos) X.env] := by rfl) :
    DS X (.Assign [.Subscript (.Name y p) ix apos] e pos) (wSetI i wi we) := by
  refine ps_weak (ps_asg he (pg_sub (pe_var hN hv hy hcd) hix set_list ha) hs hw h1) fun D σ H ⟨O, δ, P, R0, w, E⟩ => ?_
  refine ⟨O, δ, _, R0, w, fun r δ1 v H1 w1 s1 R1 k1 => ?_⟩
  obtain ⟨n, w1⟩ := w1
  split at w1
  · rename_i xs0 e0
    obtain ⟨a, us, ea, oa, e2, _⟩ := R1.lst i xs0 e0
    refine ⟨.ref a, ea, O, δ1, _, R1, w1, fun s δ2 u H2 w2 s2 R2 k2 => ?_⟩
    unfold wSetI1 at w2
    split at w2
    · rename_i xs k e1
      split at w2
      · rename_i j ej
        obtain ⟨a', vs, ea', oa', e3, d⟩ := R2.lst i xs e1
        rw [ea] at ea'; cases ea'
        have k2 : Dp X.K (hid H2 O) u (.int k) := k2
        cases k2
        have dv := Dp.up (rv_dp R0 k1 n) s2.same
        obtain ⟨s3, R3⟩ := upd_own R2 e1 ea (da_set dv j d)
        exact ⟨a, vs, k, j, rfl, rfl, e3, by rw [da_len d]; exact ej, E.nx _ _ _ _ w2 ((s1.trans s2).trans s3).tr R3⟩
      · exact w2.elim
    · exact w2.elim
  · exact w1.elim
/-- y.extend(e) -/
theorem meets_extT (l : Addr) (items : Array Value) (n : Nat) (b : Addr) (items2 : Array Value) (n2 : Nat) (dct : Option Addr) (sl : Array (Option Value)) (hc0 : ¬(!items.isEmpty && Builtin.List.listTooLong (items.size + items2.size)) = true) (hc1 : items.size ≤ sizeLine) (hz' : (items ++ items2).size ≤ sizeLine + 1) :
    Meets (Builtin.«list.extend» ⟨[.ref l, .ref b], []⟩) (fun _ R s => s.heap.get? l = some { cls := .type "list", dict := none, data := .seq items n, slots := #[] } ∧ s.heap.get? b = some { cls := .type "tuple", dict := dct, data := .seq items2 n2, slots := sl } ∧
      R (.ok (.ret Value.none)) { s with heap := s.heap.update l (Obj.mapSeq fun x => x ++ items2), toks := s.toks }) :=
  .of_wp fun prog w A R s h => by
    obtain ⟨hp, g, d, tk, os⟩ := s
    obtain ⟨hl, hb, h⟩ := h
    have f1 := AutoSeq1.idx_int
    have f2 := AutoSeq1.sub_tuple_tuple
    have f3 := AutoSeq1.sub_list_list
    have f4 := AutoSeq1.sub_tuple_list
    have f5 := AutoSeq1.sub_list_tuple
    wp_walk using (wpAny_updateSeq hl rfl (hz := hc1) (_hz' := hz')), wpAny_loadPart' hl, wpAny_loadPart' hb
    exact ⟨_, rfl, h⟩
def rExtA (K : PySem.W.Frag) : V → List V → Hp → VK → Prop := fun x vs H Q => ∃ l b xs zs, x = .ref l ∧ vs = [.ref b] ∧ H l = some (.lst xs) ∧ (H b = some (.lst zs) ∨ SqT K H b zs) ∧ xs.length + zs.length ≤ sizeLine ∧ Q .non (upd H l (.lst (xs ++ zs)))
theorem mt_extA : MtM X "list.extend" (rExtA X.K) := by
  intro pins s σ H x vs v us Q I rx rv h
  obtain ⟨l, b, xs, zs, rfl, rfl, hH, hB, hz, q⟩ := h
  rcases hB with hB | hB
  · exact mt_extend pins s σ H _ _ v us Q I rx rv ⟨l, b, xs, zs, rfl, rfl, hH, hB, hz, q⟩
  cases rx
  obtain ⟨u, rfl, ru⟩ := rv.one
  cases ru
  obtain ⟨z, its, n, r, hl, e⟩ := I.lstM hH
  obtain ⟨its2, r2, ⟨⟨c2, dct, dt2, sl⟩, ho2, hc2, n2, hd2⟩, hz2⟩ := I.tuple hB
  obtain rfl : c2 = .type "tuple" := hc2
  obtain rfl : dt2 = .seq its2.toArray n2 := hd2
  have hl2 := r2.length
  have hsz : its.toArray.size + its2.toArray.size ≤ sizeLine := by rw [List.size_toArray, List.size_toArray]; omega
  refine call_meets F.slot_list_extend ⟨_, e, rfl⟩ F.entry_list_extend (F.args_list_extend_2 _ _) (meets_extT l its.toArray n b its2.toArray n2 dct sl ?_ (by rw [List.size_toArray]; omega) (by rw [Array.size_append]; omega)) ⟨e, ho2, ?_⟩
  · rw [notLongL hsz, Bool.and_false]
    exact Bool.false_ne_true
  · refine ⟨.non, _, I.lset (its' := its ++ its2) hH e (by simp) (r.append r2) ?_, rfl, q⟩
    rw [List.length_append]
    omega
def wExt1 (i : Nat) (P : Rv → Dl → Prop) (r : Rv) (δ1 : Dl) : Prop := match δ1[i]?, r with
  | some (.o xs), .d (.tuple ys) => xs.length + ys.length < 100000 ∧ P (.d .none) (δ1.set i (.o (xs ++ ys)))
  | _, _ => False
def wExt (i : Nat) (w : WE) : WE := fun δ P => match δ[i]? with
  | some (.o _) => w δ fun r δ1 => wExt1 i P r δ1
  | _ => False
theorem de_extend (i : Nat) (he : DE X e we) (hN : X.N[i]? = some y := by rfl) (hv : Vis X.env.scope y := by first | exact Or.inl rfl | exact Or.inr (Or.inl rfl) | exact Or.inr (Or.inr rfl)) (hy : (y == ("__debug__" : Str)) = false := by decide) (hcd : (y == ("__classdict__" : Str)) = false := by decide)
    (hbase : attributeBase (.Name y p) "extend" X.env (eval (.Name y p) X.env) = eval (.Name y p) X.env := by rfl)
    (hfew : ((backTo cpos (starEach [e] X.env)).all (fun x => !x.1) && (backToKw cpos (keywordEach [] X.env)).all (fun x => x.1.isSome) && decide ([e].length + ([] : List Keyword).length + (if ([] : List Keyword).isEmpty then 0 else 1) < 30)) = true := by rfl)
    (hline : (apos.endLine == cpos.line) = true := by rfl) (hs : starEach [e] X.env = (false, eval e X.env) :: starEach [] X.env := by rfl) :
    DE X (.Call (.Attribute (.Name y p) "extend" apos) [e] [] cpos) (wExt i we) := by
  refine pe_weak (pe_bm PySem.F.plainAttrs_list PySem.F.slot_list_extend PySem.F.type_list_extend mt_extA (pe_var hN hv hy hcd) (pa_cons he pa_nil hs) hbase hfew hline hs) fun σ H Q ⟨O, δ, P, R0, w, f⟩ => ?_
  unfold wExt at w
  split at w
  · rename_i xs0 e0
    obtain ⟨a, us, ea, oa, e2, _⟩ := R0.lst i xs0 e0
    refine ⟨.ref a, ea, .inl ⟨rfl, us, .inl (.inl e2)⟩, O, δ, _, R0, w, fun r δ1 v H1 w1 s1 R1 k1 => ?_⟩
    unfold wExt1 at w1
    split at w1
    · rename_i xs ys e1
      obtain ⟨a', vs, ea', oa', e3, d⟩ := R1.lst i xs e1
      rw [ea] at ea'; cases ea'
      have k1 : Dp X.K (hid H1 O) v (.tuple ys) := k1
      cases k1 with
      | tup hs ha =>
        obtain ⟨s2, R2⟩ := upd_own R1 e1 ea (da_app d ha)
        exact ⟨a, _, vs, _, rfl, rfl, e3, .inr (st_mono hid_le (.inl (.inl hs))), Nat.le_of_lt (small5 (by rw [da_len d, da_len ha]; exact w1.1)), f _ _ _ _ w1.2 (s1.trans s2) R2 .non⟩
    · exact w1.elim
  · exact w.elim
end

/-! ### name = [..], on one line -/
section
variable {X : Cx} {tg tg1 iter iter1 e elt : Expr} {we el : WE} {wi wi1 : WI} {pos spos p py : Pos} {ifs ifs1 : List Expr} {scope : Scope} {own : List (Str × Nat)} {js js1 vs1 : List Nat} {b b1 : WB} {t t1 : WT} {y : Str}
theorem ds_setLc (i : Nat) (hc : X.calm = true) (hN : X.N.Nodup) (hi : DI X tg iter wi) (ok : BlkOk X.N X.env.scope scope own)
    (hg : ∀ (s : Shared) (H : Hp) (C : Addr) (cl : List (Str × Addr)) (fp : List Addr), DG (X.blk s H scope (compEnvC scope cl C X.env) fp) tg js b) (ht : ∀ (s : Shared) (H : Hp) (C : Addr) (cl : List (Str × Addr)) (fp : List Addr), DTs (X.blk s H scope (compEnvC scope cl C X.env) fp) ifs t)
    (he : ∀ (s : Shared) (H : Hp) (C : Addr) (cl : List (Str × Addr)) (fp : List Addr), DE (X.blk s H scope (compEnvC scope cl C X.env) fp) elt el) (h0 : i ≠ 0 := by decide) (hy : X.N[i]? = some y := by rfl) (hyl : X.env.scope.names.lookup y = some .local := by rfl)
    (hsw : swapsWith (.ListComp elt [⟨tg, iter, ifs, 0⟩] scope pos) (some (.Name y py)) spos.line X.env = pure true := by exact sw_true rfl rfl rfl (by decide +kernel)) (hjs : ∀ j ∈ js, j ∈ own.map (·.2) := by decide) (hs : ∀ x, foldedSetIterable iter X.env x = pure x := by intro _; rfl) :
    DS X (.Assign [.Name y py] (.ListComp elt [⟨tg, iter, ifs, 0⟩] scope pos) spos) (wSet i (wLc wi b t el (own.map (·.2)))) :=
  ps_weak (ps_setLc (wi := liftI X.K wi) (g := liftG X.K js b) (tt := liftT X.K t) (te := lift X.K el) hc hN hy hyl hsw hi ok hg ht he hs) fun D σ H q => lift_lc hjs (lift_set h0 q)
end

/-! ### a, b = e1, e2 -/
section
variable {X : Cx} {a b : Expr} {wa wb : WE} {pos px py pt pt2 : Pos} {x y : Str} {i j kt k2 : Nat}
def wPair (i j : Nat) (wa wb : WE) : WS := fun P δ => wa δ fun r δ1 => noB r = true ∧ wb δ1 fun s δ2 => noB s = true ∧ match putR δ2 i r with
  | some δ3 => match putR δ3 j s with
    | some δ4 => P.nx δ4
    | none => False
  | none => False
/-- a value that is held for a slot: H0 the start -/
def HeldV (K : PySem.W.Frag) (O : Addr → Prop) (H0 : Hp) (δ : Dl) (σ : L2.St) (H : Hp) (v : V) : Rv → Prop
  | .d x => Dp K (hid H O) v x
  | .l xs => ∃ p vs, v = .ref p ∧ O p ∧ H0 p = none ∧ ¬ Own δ σ p ∧ H p = some (.lst vs) ∧ DpAll K (hid H O) vs xs
  | .b _ _ => False
section
variable {K : PySem.W.Frag} {O O1 : Addr → Prop} {δ δ1 δ2 δ3 : Dl} {σ0 σ : L2.St} {H0 H H1 H2 : Hp} {v : V} {r : Rv}
/-- behind an expression: the value held, what is owned wider -/
theorem hold_ok (R0 : Rep K O δ σ H0) (s : Stp O δ δ1 σ H0 H1) (R1 : Rep K O δ1 σ H1) (k : RvOk K O σ δ1 H0 H1 v r) (n : noB r = true) (G : Hp) (hG : ∀ p, H0 p = none → G p = none) :
    ∃ O1, (∀ a, O a → O1 a) ∧ (∀ a, O1 a → O a ∨ H0 a = none) ∧ Same (hid H0 O) (hid H1 O1) ∧ (∀ a, O a → ¬ Own δ σ a → H1 a = H0 a) ∧ (∀ (i : Nat), (∃ xs, δ1[i]? = some (Sl.o xs)) ↔ (∃ xs, δ[i]? = some (Sl.o xs))) ∧ Rep K O1 δ1 σ H1 ∧ HeldV K O1 G δ1 σ H1 v r := by
  cases r with
  | b i xs => cases n
  | d x => exact ⟨O, fun _ z => z, fun _ z => .inl z, s.same, s.frame, s.own, R1, k⟩
  | l xs =>
    obtain ⟨p, vs, rfl, n, e, ha, hr⟩ := k
    refine ⟨_, fun _ z => .inl z, fun a z => z.imp id fun q => by rw [q]; exact n, same_hide s.same n, s.frame, s.own, hr, p, vs, rfl, .inr rfl, hG p n, fun ⟨j, ys, e1, e2⟩ => ?_, e, ha⟩
    obtain ⟨a, us, e3, z, _⟩ := R1.lst j ys e1
    rw [e3] at e2; cases e2
    exact R0.fresh n z
theorem held_put {i : Nat} (hi : i ≠ 0) (R : Rep K O1 δ2 σ H2) (tr : Tr O O1 δ δ2 σ0 σ H H2) (h : HeldV K O1 H δ2 σ H2 v r) (e : putR δ2 i r = some δ3) : Rep K O1 δ3 (σ.set i (some v)) H2 ∧ Tr O O1 δ δ3 σ0 (σ.set i (some v)) H H2 := by
  have kp : ∀ (δ3 : Dl), (∀ (j : Nat), j ≠ i → δ3[j]? = δ2[j]?) → ∀ xs a, δ[0]? = some (Sl.o xs) → σ0[0]? = some (some (V.ref a)) → (∃ ys, δ3[0]? = some (Sl.o ys)) ∧ (σ.set i (some v))[0]? = some (some (V.ref a)) := fun δ3 hd xs a e1 e2 => by
    rw [hd 0 fun z => hi z.symm, List.getElem?_set_ne hi]
    exact tr.keep xs a e1 e2
  cases r with
  | b j xs => cases e
  | d x =>
    cases e
    refine ⟨rep_set R h, tr.sub, tr.same, tr.new, tr.frame, kp _ fun j hj => List.getElem?_set_ne fun z => hj z.symm, fun a ⟨j, ys, e1, e2⟩ => ?_, fun a ⟨j, ys, e1, e2⟩ => ?_⟩
    · by_cases q : i = j
      · rw [get_set, if_pos q] at e1
        split at e1 <;> cases e1
      · rw [List.getElem?_set_ne q] at e1 e2
        exact tr.own a ⟨j, ys, e1, e2⟩
    · by_cases q : i = j
      · rw [get_set, if_pos q] at e1
        split at e1 <;> cases e1
      · rw [List.getElem?_set_ne q] at e1 e2
        exact tr.ownM a ⟨j, ys, e1, e2⟩
  | l xs =>
    cases e
    obtain ⟨p, vs, rfl, op, n0, no, e2, d⟩ := h
    refine ⟨rep_setO no R op e2 d, tr.sub, tr.same, tr.new, tr.frame, kp _ fun j hj => List.getElem?_set_ne fun z => hj z.symm, fun a ⟨j, ys, e1, e2⟩ => ?_, fun a ⟨j, ys, e1, e2⟩ => ?_⟩
    · by_cases q : i = j
      · rw [get_set, if_pos q] at e2
        split at e2
        · cases e2; exact .inr n0
        · cases e2
      · rw [List.getElem?_set_ne q] at e1 e2
        exact tr.own a ⟨j, ys, e1, e2⟩
    · by_cases q : i = j
      · rw [get_set, if_pos q] at e1
        split at e1 <;> cases e1
      · rw [List.getElem?_set_ne q] at e1 e2
        exact tr.ownM a ⟨j, ys, e1, e2⟩
end
theorem pair_ok {K : PySem.W.Frag} {D : Ends} {σ : L2.St} {H : Hp} {Q : V → V → Hp → Prop} (hi : i ≠ 0) (hj : j ≠ 0) (q : liftS K (wPair i j wa wb) D σ H)
    (fin : ∀ v w H', D.nx ((σ.set i (some v)).set j (some w)) H' → (∀ p o, H' p = none → D.nx ((σ.set i (some v)).set j (some w)) (upd H' p o)) → Q v w H') : lift K wa σ H fun v H1 => lift K wb σ H1 fun w H2 => Q v w H2 := by
  obtain ⟨O, δ, P, R, w, E⟩ := q
  refine ⟨O, δ, _, R, w, fun r δ1 v H1 w1 s1 R1 k1 => ?_⟩
  obtain ⟨nr, w1⟩ := w1
  obtain ⟨O1, a1, a2, a3, a4, a5, R1', h1⟩ := hold_ok R s1 R1 k1 nr H fun _ z => z
  have tr1 : Tr O O1 δ δ1 σ σ H H1 := ⟨a1, a3, a2, fun a z n _ => a4 a z n, fun xs a e1 e2 => ⟨(a5 0).mpr ⟨xs, e1⟩, e2⟩, fun a z => .inl (s1.ownI z), fun a ⟨i, kvs, e1, e2⟩ => .inl ⟨i, kvs, s1.dct i kvs e1, e2⟩⟩
  refine ⟨O1, δ1, _, R1', w1, fun s δ2 u H2 w2 s2 R2 k2 => ?_⟩
  obtain ⟨ns, w2⟩ := w2
  obtain ⟨O2, b1, b2, b3, b4, b5, R2', h2⟩ := hold_ok R1' s2 R2 k2 ns H fun p z => tr1.back R R1' z
  have tr2 : Tr O1 O2 δ1 δ2 σ σ H1 H2 := ⟨b1, b3, b2, fun a z n _ => b4 a z n, fun xs a e1 e2 => ⟨(b5 0).mpr ⟨xs, e1⟩, e2⟩, fun a z => .inl (s2.ownI z), fun a ⟨i, kvs, e1, e2⟩ => .inl ⟨i, kvs, s2.dct i kvs e1, e2⟩⟩
  have tr := tr1.trans R R1' tr2
  have h1' : HeldV K O2 H δ2 σ H2 v r := by
    cases r with
    | b i xs => cases nr
    | d x => exact Dp.up h1 b3
    | l xs =>
      obtain ⟨p, vs, e1, op, n0, no, e2, d⟩ := h1
      exact ⟨p, vs, e1, b1 p op, n0, fun z => no (s2.ownI z), by rw [b4 p op no]; exact e2, DpAll.up d b3⟩
  split at w2
  · rename_i δ3 e3
    split at w2
    · rename_i δ4 e4
      obtain ⟨R3, tr3⟩ := held_put hi R2' tr h1' e3
      have h2' : HeldV K O2 H δ3 (σ.set i (some v)) H2 u s := by
        cases s with
        | b i xs => cases ns
        | d x => exact h2
        | l xs =>
          obtain ⟨p, vs, e1, op, n0, no, e2, d⟩ := h2
          refine ⟨p, vs, e1, op, n0, fun ⟨l, ys, q1, q2⟩ => ?_, e2, d⟩
          by_cases q : i = l
          · rw [get_set, if_pos q] at q2
            split at q2
            · cases q2
              obtain ⟨p', vs', z1, z2, z3, _⟩ := k2
              have z1 : u = .ref p' := z1
              rw [e1] at z1; cases z1
              cases r with
              | b i xs => cases nr
              | d x =>
                cases e3
                rw [get_set, if_pos q] at q1
                split at q1 <;> cases q1
              | l xs =>
                obtain ⟨p2, vs2, y1, y2, y3, y4, y5, _⟩ := h1
                cases y1
                rw [z2] at y5; cases y5
            · cases q2
          · rw [List.getElem?_set_ne q] at q2
            have q1' : δ2[l]? = some (Sl.o ys) := by
              cases r with
              | b i xs => cases nr
              | d x => cases e3; rw [List.getElem?_set_ne q] at q1; exact q1
              | l xs => cases e3; rw [List.getElem?_set_ne q] at q1; exact q1
            exact no ⟨l, ys, q1', q2⟩
      obtain ⟨R4, tr4⟩ := held_put hj R3 tr3 h2' e4
      exact fin _ _ _ (E.nx _ _ _ _ w2 tr4 R4) fun p o hp => E.nx _ _ _ _ w2 (tr4.trans R R4 (Stp.laid R4 hp).tr) (R4.laid hp)
    · exact w2.elim
  · exact w2.elim
theorem ds_par (i j : Nat) (hc : X.calm = true) (hN : X.N.Nodup) (ha : DE X a wa) (hb : DE X b wb) (h0 : i ≠ 0 := by decide) (h1 : j ≠ 0 := by decide) (hi : X.N[i]? = some x := by rfl) (hj : X.N[j]? = some y := by rfl) (hij : i ≠ j := by decide)
    (hx : X.env.scope.names.lookup x = some .local := by rfl) (hy : X.env.scope.names.lookup y = some .local := by rfl) (hs1 : starEach [a, b] X.env = (false, eval a X.env) :: starEach [b] X.env := by rfl) (hs2 : starEach [b] X.env = (false, eval b X.env) :: starEach [] X.env := by rfl)
    (hw : swappedStores [.Tuple [.Name x px, .Name y py] kt pt] (.Tuple [a, b] k2 pt2) X.env = pure (some [x, y]) := by rfl) (hs : swapsWithSole [.Tuple [.Name x px, .Name y py] kt pt] (.Tuple [a, b] k2 pt2) pos.line X.env = pure false := by rfl) :
    DS X (.Assign [.Tuple [.Name x px, .Name y py] kt pt] (.Tuple [a, b] k2 pt2) pos) (wPair i j wa wb) := by
  refine ps_weak (ps_par hc hN hi hj hij hx hy (pa_cons ha (pa_cons hb pa_nil hs2) hs1) hw hs) fun D σ H q => ?_
  exact pair_ok h0 h1 q fun v w H' hnx _ => ⟨v, w, rfl, hnx⟩
theorem ds_pair (i j : Nat) (hc : X.calm = true) (hN : X.N.Nodup) (ha : DE X a wa) (hb : DE X b wb) (h0 : i ≠ 0 := by decide) (h1 : j ≠ 0 := by decide) (hi : X.N[i]? = some x := by rfl) (hj : X.N[j]? = some y := by rfl) (hx : Loc X.env.scope x := by first | exact Or.inl rfl | exact Or.inr rfl) (hy : Loc X.env.scope y := by first | exact Or.inl rfl | exact Or.inr rfl)
    (hfx : X.fn x = true ∨ X.env.scope.names.lookup x = some .local := by first | exact .inl rfl | exact .inr rfl) (hfy : X.fn y = true ∨ X.env.scope.names.lookup y = some .local := by first | exact .inl rfl | exact .inr rfl)
    (hs1 : starEach [a, b] X.env = (false, eval a X.env) :: starEach [b] X.env := by rfl) (hs2 : starEach [b] X.env = (false, eval b X.env) :: starEach [] X.env := by rfl)
    (hs : swapsWithSole [.Tuple [.Name x px, .Name y py] kt pt] (.Tuple [a, b] k2 pt2) pos.line X.env = pure false := by rfl) (hw : swappedStores [.Tuple [.Name x px, .Name y py] kt pt] (.Tuple [a, b] k2 pt2) X.env = pure none := by rfl) :
    DS X (.Assign [.Tuple [.Name x px, .Name y py] kt pt] (.Tuple [a, b] k2 pt2) pos) (wPair i j wa wb) := by
  refine ps_weak (ps_asg (pe_tup (pa_cons ha (pa_cons hb pa_nil hs2) hs1)) (pg_tup hc (pgs_cons (pg_name hN hi hx hfx) (pgs_cons (pg_name hN hj hy hfy) pgs_nil))) hs hw) fun D σ H q => ?_
  refine pair_ok h0 h1 q fun v w H' _ hnew => ⟨by show 2 ≤ sizeLine; decide, fun p hp => ⟨p, [v, w], rfl, .inl (.inl upd_same), rfl, v, [w], rfl, w, [], rfl, rfl, hnew p _ hp⟩⟩
end

/-! ### a def, by data -/
def outD : Dl → Dl → Dl
  | .o _ :: t, .o ys :: _ => .o ys :: t
  | d, _ => d
def endsOf (δa : Dl) (P : Rv → Dl → Prop) : DEnds where
  nx := fun δ' => P (.d .none) (outD δa δ')
  rt := fun r δ' => match r with
    | .b i xs => i ≠ 0 ∧ P (.l xs) (outD δa δ')
    | .d x => P (.d x) (outD δa δ')
    | .l xs => P (.l xs) (outD δa δ')
  bk := fun _ => False
  ct := fun _ => False
/-- only the first argument may be a list of its own -/
def ArgOk (n : Nat) (δ : Dl) : Prop := δ.length = n ∧ (∀ (i : Nat) (xs : List PyData), δ[i]? = some (Sl.o xs) → i = 0) ∧ ∀ (i : Nat) (s : Sl), δ[i]? = some s → noMk s = true
theorem get_app {α : Type} {xs ys : List α} {i : Nat} : (xs ++ ys)[i]? = if i < xs.length then xs[i]? else ys[i - xs.length]? := by
  by_cases h : i < xs.length
  · rw [if_pos h, List.getElem?_append_left h]
  · rw [if_neg h, List.getElem?_append_right (Nat.le_of_not_lt h)]
theorem start_ok {K : PySem.W.Frag} {O : Addr → Prop} {δ : Dl} {N ps : List Str} {ys : List V} {G : Hp} {Pd : Rv → Dl → Prop} {Q : VK} (ly : ys.length = ps.length) (R : Rep K O δ (ys.map some) G) (ao : ArgOk ps.length δ)
    (f : ∀ r δ' v H', Pd r δ' → Stp O δ δ' (ys.map some) G H' → Rep K O δ' (ys.map some) H' → RvOk K O (ys.map some) δ' G H' v r → Q v H') :
    Rep K O (δ ++ List.replicate (N.length - ps.length) Sl.un) (L2.start N ys) G ∧ EOk K O (δ ++ List.replicate (N.length - ps.length) Sl.un) (L2.start N ys) G (endsOf δ Pd) { nx := fun _ G' => Q .non G', rt := Q } ∧
      (∀ a, Own (δ ++ List.replicate (N.length - ps.length) Sl.un) (L2.start N ys) a → Own δ (ys.map some) a) ∧ ∀ a, ¬ ∃ (i : Nat) (kvs : List (List Int × PyData)), (δ ++ List.replicate (N.length - ps.length) Sl.un)[i]? = some (Sl.m kvs) ∧ (L2.start N ys)[i]? = some (some (V.ref a)) := by
  obtain ⟨hl, h0, hnm⟩ := ao
  have st_ : L2.start N ys = ys.map some ++ List.replicate (N.length - ps.length) none := by
    unfold L2.start
    rw [ly]
  have atL : ∀ (i : Nat) (s : Sl), s ≠ .un → (δ ++ List.replicate (N.length - ps.length) Sl.un)[i]? = some s → i < δ.length ∧ δ[i]? = some s := fun i s ns e => by
    rw [get_app] at e
    by_cases h : i < δ.length
    · rw [if_pos h] at e; exact ⟨h, e⟩
    · rw [if_neg h, List.getElem?_replicate] at e
      split at e
      · exact absurd (Option.some.inj e).symm ns
      · cases e
  have atR : ∀ (i : Nat), i < δ.length → (L2.start N ys)[i]? = (ys.map some)[i]? := fun i h => by
    rw [st_, List.getElem?_append_left (by rw [List.length_map, ly, ← hl]; exact h)]
  have R2 : Rep K O (δ ++ List.replicate (N.length - ps.length) Sl.un) (L2.start N ys) G := by
    refine ⟨?_, fun i x e => ?_, fun i xs e => ?_, fun i j xs zs a e1 e2 e3 e4 => ?_, R.occ, .none fun i s e => ?_⟩
    · rw [st_, List.length_append, List.length_append, List.length_replicate, List.length_replicate, R.len]
    · obtain ⟨h, e⟩ := atL i (.d x) (by intro z; cases z) e
      rw [atR i h]; exact R.dat i x e
    · obtain ⟨h, e⟩ := atL i (.o xs) (by intro z; cases z) e
      rw [atR i h]; exact R.lst i xs e
    · obtain ⟨h, e1⟩ := atL i (.o xs) (by intro z; cases z) e1
      obtain ⟨h', e2⟩ := atL j (.o zs) (by intro z; cases z) e2
      rw [atR i h] at e3
      rw [atR j h'] at e4
      exact R.inj i j xs zs a e1 e2 e3 e4
    · cases s with
      | un => rfl
      | d x => rfl
      | o xs => rfl
      | m x => exact hnm i _ (atL i (.m x) (by intro z; cases z) e).2
      | k x => exact hnm i _ (atL i (.k x) (by intro z; cases z) e).2
  have ownL : ∀ a, Own (δ ++ List.replicate (N.length - ps.length) Sl.un) (L2.start N ys) a → Own δ (ys.map some) a := fun a ⟨i, xs, e1, e2⟩ => by
    obtain ⟨h, e1⟩ := atL i (.o xs) (by intro z; cases z) e1
    rw [atR i h] at e2
    exact ⟨i, xs, e1, e2⟩
  -- the parameters behind the body
  have outp : ∀ O' δ' σ' G', Tr O O' (δ ++ List.replicate (N.length - ps.length) Sl.un) δ' (L2.start N ys) σ' G G' → Rep K O' δ' σ' G' → ∀ O2 : Addr → Prop, (∀ a, O a → O2 a) → Same (hid G O) (hid G' O2) → (∀ a, O2 a → ∃ o, G' a = some o) →
      (∀ (zs : List PyData), δ'[0]? = some (Sl.o zs) → ∀ a, σ'[0]? = some (some (V.ref a)) → ∃ us, G' a = some (.lst us) ∧ DpAll K (hid G' O2) us zs) → Rep K O2 (outD δ δ') (ys.map some) G' ∧ (∀ (i : Nat), (∃ xs, (outD δ δ')[i]? = some (Sl.o xs)) ↔ (∃ xs, δ[i]? = some (Sl.o xs))) ∧ (∀ (i : Nat) (x : PyData), (outD δ δ')[i]? = some (Sl.d x) ↔ δ[i]? = some (Sl.d x)) := by
    intro O' δ' σ' G' tr R' O2 sub same occ own0
    cases hδ : δ with
    | nil =>
      have e : outD [] δ' = [] := by cases δ' <;> rfl
      rw [e]
      refine ⟨⟨by rw [← hδ]; exact R.len, fun i x z => by simp at z, fun i x z => by simp at z, fun i j xs zs a z => by simp at z, occ, .none fun i s z => by simp at z⟩, fun _ => Iff.rfl, fun _ _ => Iff.rfl⟩
    | cons s0 t =>
      have dataOnly : ∀ d0 : Dl, outD δ δ' = d0 → (∀ (i : Nat) (x : PyData), d0[i]? = some (Sl.d x) → δ[i]? = some (Sl.d x)) → True := fun _ _ _ => trivial
      have tl : ∀ (i : Nat) (xs : List PyData), t[i]? ≠ some (Sl.o xs) := fun i xs z => by
        have := h0 (i + 1) xs (by rw [hδ]; exact z)
        omega
      cases s0 with
      | m x => exact nomatch hnm 0 (.m x) (by rw [hδ]; rfl)
      | k x => exact nomatch hnm 0 (.k x) (by rw [hδ]; rfl)
      | o xs0 =>
        obtain ⟨a, us, ea, oa, e2, _⟩ := R.lst 0 xs0 (by rw [hδ]; rfl)
        have hb0 : (δ ++ List.replicate (N.length - ps.length) Sl.un)[0]? = some (Sl.o xs0) := by rw [hδ]; rfl
        have hs0 : (L2.start N ys)[0]? = some (some (V.ref a)) := by rw [atR 0 (by rw [hδ]; simp)]; exact ea
        obtain ⟨⟨zs, k1⟩, k2⟩ := tr.keep xs0 a hb0 hs0
        obtain ⟨us2, g1, g2⟩ := own0 zs k1 a k2
        obtain ⟨δt, rfl⟩ : ∃ δt, δ' = .o zs :: δt := by
          cases δ' with
          | nil => simp at k1
          | cons q qs =>
            have : q = .o zs := Option.some.inj k1
            exact ⟨qs, by rw [this]⟩
        show Rep K O2 (.o zs :: t) (ys.map some) G' ∧ _
        refine ⟨⟨by have := R.len; rw [hδ] at this; exact this, fun i x z => ?_, fun i xs z => ?_, fun i j xs ws b z1 z2 _ _ => ?_, occ, .none fun i s z => by cases i with | zero => cases z; rfl | succ i => exact hnm (i + 1) s (by rw [hδ]; exact z)⟩, fun i => ?_, fun i x => ?_⟩
        · cases i with
          | zero => cases z
          | succ i =>
            obtain ⟨v, q1, q2⟩ := R.dat (i + 1) x (by rw [hδ]; exact z)
            exact ⟨v, q1, Dp.up q2 same⟩
        · cases i with
          | zero => cases z; exact ⟨a, us2, ea, sub a oa, g1, g2⟩
          | succ i => exact absurd z (tl i xs)
        · cases i with
          | zero =>
            cases j with
            | zero => rfl
            | succ j => exact absurd z2 (tl j ws)
          | succ i => exact absurd z1 (tl i xs)
        · cases i with
          | zero => exact ⟨fun _ => ⟨xs0, rfl⟩, fun _ => ⟨zs, rfl⟩⟩
          | succ i => exact Iff.rfl
        · cases i with
          | zero => exact ⟨fun z => (nomatch z), fun z => (nomatch z)⟩
          | succ i => exact Iff.rfl
      | un =>
        show Rep K O2 (.un :: t) (ys.map some) G' ∧ _
        refine ⟨⟨by have := R.len; rw [hδ] at this; exact this, fun i x z => ?_, fun i xs z => ?_, fun i j xs ws b z1 z2 _ _ => ?_, occ, .none fun i s z => hnm i s (by rw [hδ]; exact z)⟩, fun _ => Iff.rfl, fun _ _ => Iff.rfl⟩
        · obtain ⟨v, q1, q2⟩ := R.dat i x (by rw [hδ]; exact z)
          exact ⟨v, q1, Dp.up q2 same⟩
        · cases i with
          | zero => cases z
          | succ i => exact absurd z (tl i xs)
        · cases i with
          | zero => cases z1
          | succ i => exact absurd z1 (tl i xs)
      | d x0 =>
        show Rep K O2 (.d x0 :: t) (ys.map some) G' ∧ _
        refine ⟨⟨by have := R.len; rw [hδ] at this; exact this, fun i x z => ?_, fun i xs z => ?_, fun i j xs ws b z1 z2 _ _ => ?_, occ, .none fun i s z => hnm i s (by rw [hδ]; exact z)⟩, fun _ => Iff.rfl, fun _ _ => Iff.rfl⟩
        · obtain ⟨v, q1, q2⟩ := R.dat i x (by rw [hδ]; exact z)
          exact ⟨v, q1, Dp.up q2 same⟩
        · cases i with
          | zero => cases z
          | succ i => exact absurd z (tl i xs)
        · cases i with
          | zero => cases z1
          | succ i => exact absurd z1 (tl i xs)
  have done : ∀ O' δ' σ' G', Tr O O' (δ ++ List.replicate (N.length - ps.length) Sl.un) δ' (L2.start N ys) σ' G G' → Rep K O' δ' σ' G' → Stp O δ (outD δ δ') (ys.map some) G G' ∧ Rep K O (outD δ δ') (ys.map some) G' := by
    intro O' δ' σ' G' tr R'
    have same : Same (hid G O) (hid G' O) := tr.same.trans (hid_sub tr.sub)
    have r1n : ∀ (i : Nat) (kvs : List (List Int × PyData)), (outD δ δ')[i]? ≠ some (Sl.m kvs) := fun i kvs z => by
      have hh : ∀ (i : Nat) (kvs : List (List Int × PyData)), δ[i]? ≠ some (Sl.m kvs) := fun i kvs z => nomatch hnm i _ z
      unfold outD at z
      split at z
      · cases i with
        | zero => cases z
        | succ i => exact hh (i + 1) kvs z
      · exact hh i kvs z
    obtain ⟨r1, r2, r3⟩ := outp O' δ' σ' G' tr R' O (fun _ z => z) same (fun a z => R'.occ a (tr.sub a z)) fun zs k1 a k2 => by
      obtain ⟨a', us, q1, _, q2, q3⟩ := R'.lst 0 zs k1
      rw [k2] at q1; cases q1
      exact ⟨us, q2, DpAll.up q3 (hid_sub tr.sub)⟩
    exact ⟨⟨same, fun a oa no => tr.frame a oa (fun z => no (ownL a z)) (fun ⟨i, kvs, e1, _⟩ => (nomatch hnm i _ (atL i (.m kvs) (by intro z; cases z) e1).2)), r2, r3, fun i kvs z => absurd z (r1n i kvs)⟩, r1⟩
  refine ⟨R2, ⟨fun O' δ' σ' G' p tr R' => ?_, fun O' r δ' σ' v G' p tr R' kr => ?_, fun _ _ _ _ p => p.elim, fun _ _ _ _ p => p.elim⟩, ownL, fun a ⟨i, kvs, e1, _⟩ => (nomatch hnm i _ (atL i (.m kvs) (by intro z; cases z) e1).2)⟩
  · obtain ⟨s1, R1⟩ := done O' δ' σ' G' tr R'
    exact f _ _ _ _ p s1 R1 .non
  · obtain ⟨s1, R1⟩ := done O' δ' σ' G' tr R'
    cases r with
    | d y => exact f _ _ _ _ p s1 R1 (Dp.up kr (hid_sub tr.sub))
    | l zs =>
      obtain ⟨q, us, e1, n, e2, ha, hr⟩ := kr
      have sub : ∀ a, (O a ∨ a = q) → (O' a ∨ a = q) := fun a z => z.imp (tr.sub a) id
      refine f _ _ _ _ p s1 R1 ⟨q, us, e1, n, e2, DpAll.up ha (hid_sub sub), ?_⟩
      refine (outp O' δ' σ' G' tr R' (fun a => O a ∨ a = q) (fun _ z => .inl z) (same_hide s1.same n) (fun a z => hr.occ a (sub a z)) fun ws k1 a k2 => ?_).1
      obtain ⟨a', us', q1, _, q2, q3⟩ := hr.lst 0 ws k1
      rw [k2] at q1; cases q1
      exact ⟨us', q2, DpAll.up q3 (hid_sub sub)⟩
    | b i zs =>
      obtain ⟨ni, p⟩ := p
      obtain ⟨e1, e2⟩ := kr
      obtain ⟨a, us, q1, q2, q3, q4⟩ := R'.lst i zs e1
      rw [q1] at e2; cases e2
      have na : G a = none := by
        rcases tr.own a ⟨i, zs, e1, q1⟩ with z | z
        · obtain ⟨j, xs, z1, z2⟩ := ownL a z
          have hj : j = 0 := h0 j xs z1
          subst hj
          have hl0 : 0 < δ.length := (List.getElem?_eq_some_iff.mp z1).1
          obtain ⟨⟨zs', k1⟩, k2⟩ := tr.keep xs a (by rw [get_app, if_pos hl0]; exact z1) (by rw [atR 0 hl0]; exact z2)
          exact absurd (R'.inj i 0 zs zs' a e1 k1 q1 k2) ni
        · exact z
      have sub : ∀ b, (O b ∨ b = a) → O' b := fun b z => z.elim (tr.sub b) fun w => by rw [w]; exact q2
      refine f _ _ _ _ p s1 R1 ⟨a, us, rfl, na, q3, DpAll.up q4 (hid_sub sub), ?_⟩
      refine (outp O' δ' σ' G' tr R' (fun b => O b ∨ b = a) (fun _ z => .inl z) (same_hide s1.same na) (fun b z => R'.occ b (sub b z)) fun ws k1 b k2 => ?_).1
      obtain ⟨a', us', w1, _, w2, w3⟩ := R'.lst 0 ws k1
      rw [k2] at w1; cases w1
      exact ⟨us', w2, DpAll.up w3 (hid_sub sub)⟩
theorem fnD {P : Program} {w : World} {K : PySem.W.Frag} {mg : Str → Option Value} {base : Heap} {x qual : Str} {st : Stmt} {f : Addr} {fd : FuncData} {N ps : List Str} {k : Nat} {S : WE} {wb : WS} (F : Fun K x qual st f fd) (Sc : FnScope N ps (defScope st)) (hN : ps.length ≤ N.length)
    (hS : ∀ δ P, S δ P → ArgOk ps.length δ ∧ wb (endsOf δ P) (δ ++ List.replicate (N.length - ps.length) Sl.un))
    (hbody : ∀ (cdv : Value) (A : Around) (outer : List Env) (s : Shared) (G : Hp) (E : XK), A.guards = some [] → Room k (A.deeper (envOfC qual (defScope st) s.heap.objs.size f cdv)) → DSs (cxOf CX0 P w K mg base N qual (defScope st) f cdv A outer s G E).nox (defBody st) wb) :
    FnG P w K mg base CX0 (k + 1) f fd ps (spOf K S) := by
  have len : ∀ ys G Q E, spOf K S ys G Q E → ys.length = ps.length := fun ys G Q E ⟨O, δ, P, R, hs, _⟩ => by
    have := R.len
    rw [List.length_map] at this
    rw [← this]
    exact (hS δ P hs).1.1
  refine fnG_of F Sc len fun cdv A outer s G ys Q E g0 room pr => ⟨_, hbody cdv A outer s G E g0 room, ?_⟩
  have ly := len _ _ _ _ pr
  obtain ⟨O, δ, Pd, R, hs, f⟩ := pr
  obtain ⟨ao, hw⟩ := hS δ Pd hs
  obtain ⟨R2, En, _⟩ := start_ok (N := N) ly R ao f
  exact ⟨O, _, _, R2, hw, En⟩
end Dw

namespace Dw
open PySem PySem.Spec PyProof.Rows L2
/-- the built-in names are not bound by the text -/
structure Bl (mg : Str → Option Value) : Prop where
  len : mg "len" = none
  range : mg "range" = none
  tuple : mg "tuple" = none
  list : mg "list" = none
  max : mg "max" = none
  min : mg "min" = none
  all : mg "all" = none
  any : mg "any" = none
  sorted : mg "sorted" = none
  repr : mg "repr" = none
  isinstance : mg "isinstance" = none
  int : mg "int" = none
  bool : mg "bool" = none
  str : mg "str" = none
  enumerate : mg "enumerate" = none
  zip : mg "zip" = none
  set : mg "set" = none
  dict : mg "dict" = none
/-- a def of the text keeps its word -/
structure Fn (P : Program) (w : World) (K : PySem.W.Frag) (mg : Str → Option Value) (base : Heap) (k : Nat) (x : Str) (S : WE) : Prop where
  ex : ∃ (a : Addr) (fd : FuncData) (ps : List Str), mg x = some (.ref a) ∧ PySem.W.keepIn K (.ref a) = true ∧ Binds K fd ps [] ∧ FnG P w K mg base CX0 k a fd ps (spOf K S)
theorem hu80 {k : Nat} {A : Around} (r : Room k A) : A.units + 80 < cLine := by have := r.un; omega
section
variable {X : Cx} {e : Expr} {es : List Expr} {ua : WA} {pos p : Pos} {x : Str} {k : Nat} {S : WE}
theorem de_callF (F : Fn X.prog X.w X.K X.mg X.base k x S) (g0 : X.A.guards = some []) (room : Room k X.A) (hg : Gl X x) (ha : DA X (e :: es) ua)
    (hdb : (x == ("__debug__" : Str)) = false := by decide) (he : starEach (e :: es) X.env = (false, eval e X.env) :: starEach es X.env := by rfl) (hpl : (backTo pos (starEach es X.env)).any (·.1) = false := by rfl) :
    DE X (.Call (.Name x p) (e :: es) [] pos) (wCall S ua) := by
  obtain ⟨a, fd, ps, h1, h2, h3, h4⟩ := F.ex
  exact de_call h4 g0 room hg h1 h2 h3 ha hdb he hpl
theorem de_callOF {y : Str} {py : Pos} (i : Nat) (F : Fn X.prog X.w X.K X.mg X.base k x S) (g0 : X.A.guards = some []) (room : Room k X.A) (hg : Gl X x) (ha : DA X es ua)
    (hN : X.N[i]? = some y := by rfl) (hv : Vis X.env.scope y := by first | exact Or.inl rfl | exact Or.inr (Or.inl rfl) | exact Or.inr (Or.inr rfl)) (hy : (y == ("__debug__" : Str)) = false := by decide) (hcd : (y == ("__classdict__" : Str)) = false := by decide)
    (hdb : (x == ("__debug__" : Str)) = false := by decide) (he : starEach (.Name y py :: es) X.env = (false, eval (.Name y py) X.env) :: starEach es X.env := by rfl) (hpl : (backTo pos (starEach es X.env)).any (·.1) = false := by rfl) :
    DE X (.Call (.Name x p) (.Name y py :: es) [] pos) (wCallO S i ua) := by
  obtain ⟨a, fd, ps, h1, h2, h3, h4⟩ := F.ex
  exact de_callO i h4 g0 room hg h1 h2 h3 ha hN hv hy hcd hdb he hpl
end
end Dw
namespace Dw
open PySem PySem.Spec PyProof.Rows L2
/-- where a def of the text stands behind the top -/
def DefIn (K : PySem.W.Frag) (x : Str) (st : Stmt) : Prop := ∃ (f : Addr) (oc : Value) (od : Option Addr) (kV dc pm : Value) (an : Option Addr) (cd ct : Value) (sl : Array (Option Value)),
  PySem.W.nsIn K mainGlobals x = some (some (.ref f)) ∧ K.lookup f = some ⟨oc, od, .func (PySem.W.fnOf x x (defArgs st) (defBody st) (defScope st) .none kV dc pm an cd ct), sl⟩ ∧ PySem.W.codeIn K cd x = true ∧ PySem.W.keepIn K (.ref f) = true
theorem def_in {K : PySem.W.Frag} {x : Str} {st : Stmt} {f : Addr} {oc : Value} {od : Option Addr} {kV dc pm : Value} {an : Option Addr} {cd ct : Value} {sl : Array (Option Value)} (a : PySem.W.nsIn K mainGlobals x = some (some (.ref f)))
    (l : K.lookup f = some ⟨oc, od, .func (PySem.W.fnOf x x (defArgs st) (defBody st) (defScope st) .none kV dc pm an cd ct), sl⟩) (c : PySem.W.codeIn K cd x = true) (k : PySem.W.keepIn K (.ref f) = true) : DefIn K x st := ⟨f, oc, od, kV, dc, pm, an, cd, ct, sl, a, l, c, k⟩
theorem fn_in {P : Program} {w : World} {K : PySem.W.Frag} {mg : Str → Option Value} {base h : Heap} {x : Str} {st : Stmt} {ps : List Str} {S : WE} {k : Nat} (X : K.In h) (G : h.Ns mainGlobals mg) (d : DefIn K x st)
    (hb : ∀ (kV doc pm : Value) (an : Option Addr) (cdv ct : Value) (us : List Value), us.length = ps.length → bindArgs (PySem.W.fnOf x x (defArgs st) (defBody st) (defScope st) .none kV doc pm an cdv ct) ⟨us, []⟩ = pure (ps.zip us))
    (ok : ∀ {f : Addr} {fd : FuncData}, Fun K x x st f fd → FnG P w K mg base CX0 k f fd ps (spOf K S)) : Fn P w K mg base k x S := by
  obtain ⟨f, oc, od, kV, dc, pm, an, cd, ct, sl, a, l, c, kp⟩ := d
  have F := fun_mk (st := st) l c kp
  exact ⟨f, _, ps, PySem.W.mg_of X G a, kp, F.binds hb, ok F⟩
end Dw

namespace Dw
open PySem PySem.Spec PyProof.Rows L2
theorem argD (ds : List PyData) : ArgOk ds.length (ds.map Sl.d) := by
  refine ⟨List.length_map _, fun i xs e => ?_, fun i s e => ?_⟩
  · rw [List.getElem?_map] at e
    cases q : ds[i]? with
    | none => rw [q] at e; cases e
    | some d => rw [q] at e; cases e
  · rw [List.getElem?_map] at e
    cases q : ds[i]? with
    | none => rw [q] at e; cases e
    | some d => rw [q] at e; cases e; rfl
theorem argO (xs : List PyData) (ds : List PyData) : ArgOk (ds.length + 1) (.o xs :: ds.map Sl.d) := by
  refine ⟨by simp, fun i ys e => ?_, fun i s e => ?_⟩
  · cases i with
    | zero => rfl
    | succ i =>
      have e : (ds.map Sl.d)[i]? = some (Sl.o ys) := e
      rw [List.getElem?_map] at e
      cases q : ds[i]? with
      | none => rw [q] at e; cases e
      | some d => rw [q] at e; cases e
  · cases i with
    | zero => cases e; rfl
    | succ i => exact (argD ds).2.2 i s e
section
variable {b b1 : WB} {t t1 : WT} {el : WE} {wi1 : WI} {vs vs1 : List Nat} {k : List PyData → Dl → Prop} {δ : Dl}
/-- one turn of a block whose element changes nothing -/
def Turn1 (b : WB) (t : WT) (el : WE) (vs : List Nat) (δ : Dl) (tx : PyData → Bool) (g : PyData → PyData) (x : PyData) : Prop :=
  ∀ (C : PyData → Dl → Prop) (C' : Dl → Prop), (tx x = true → C (g x) δ) → (tx x = false → C' δ) → b x δ fun δ1 => t δ1 fun c δ2 => if c = true then el δ2 fun y δ3 => noB y = true ∧ C y.as (wipeD δ3 vs) else C' (wipeD δ2 vs)
theorem go_pure (tx : PyData → Bool) (g : PyData → PyData) : ∀ (ds acc : List PyData), (∀ x ∈ ds, Turn1 b t el vs δ tx g x) → k (acc ++ (ds.filter tx).map g) δ → wGo b t el vs k ds acc δ
  | [], acc, _, h => by
    have h : k (acc ++ []) δ := h
    rw [List.append_nil] at h
    exact h
  | x :: r, acc, ht, h => by
    refine ht x List.mem_cons_self (fun y δ3 => wGo b t el vs k r (acc ++ [y]) δ3) (fun δ2 => wGo b t el vs k r acc δ2) (fun e => ?_) (fun e => ?_)
    · refine go_pure tx g r _ (fun z hz => ht z (List.mem_cons_of_mem _ hz)) ?_
      rw [List.filter_cons_of_pos e, List.map_cons] at h
      rw [List.append_assoc]
      exact h
    · refine go_pure tx g r _ (fun z hz => ht z (List.mem_cons_of_mem _ hz)) ?_
      rw [List.filter_cons_of_neg (by rw [e]; decide)] at h
      exact h
theorem go_map (g : PyData → PyData) (ds acc : List PyData) (ht : ∀ x ∈ ds, Turn1 b t el vs δ (fun _ => true) g x) (h : k (acc ++ ds.map g) δ) : wGo b t el vs k ds acc δ := by
  refine go_pure (fun _ => true) g ds acc ht ?_
  rw [List.filter_eq_self.mpr (by simp)]
  exact h
theorem go_inv (N : Nat) (I : Nat → List PyData → Dl → Prop) (turn : ∀ n x acc δ (C : List PyData → Dl → Prop), n < N → I n acc δ → (∀ acc' δ', I (n + 1) acc' δ' → C acc' δ') → b x δ fun δ1 => t δ1 fun c δ2 => if c = true then el δ2 fun y δ3 => noB y = true ∧ C (acc ++ [y.as]) (wipeD δ3 vs) else C acc (wipeD δ2 vs)) :
    ∀ (ds acc : List PyData) (δ : Dl) (n : Nat), n + ds.length = N → I n acc δ → (∀ acc δ, I N acc δ → k acc δ) → wGo b t el vs k ds acc δ
  | [], acc, δ, n, e, hi, h => h acc δ (by rw [← e]; exact hi)
  | x :: r, acc, δ, n, e, hi, h => by
    rw [List.length_cons] at e
    refine turn n x acc δ (fun acc' δ' => wGo b t el vs k r acc' δ') (by omega) hi fun acc' δ' hi' => ?_
    exact go_inv N I turn r acc' δ' (n + 1) (by omega) hi' h
def Turn2 (b : WB) (t : WT) (wi1 : WI) (b1 : WB) (t1 : WT) (el : WE) (vs vs1 : List Nat) (δ : Dl) (h : PyData → List PyData) (x : PyData) : Prop :=
  ∀ (acc : List PyData) (C : List PyData → Dl → Prop), C (acc ++ h x) δ → b x δ fun δ1 => t δ1 fun c δ2 => if c = true then wi1 δ2 fun ds1 δ3 => (ds1.length ≤ 1000 ∧ unAll δ3 vs1 = true) ∧ wGo b1 t1 el vs1 (fun acc' δ4 => C acc' (wipeD δ4 vs)) ds1 acc δ3 else C acc (wipeD δ2 vs)
theorem go2_pure (g : PyData → List PyData) : ∀ (ds acc : List PyData), (∀ x ∈ ds, Turn2 b t wi1 b1 t1 el vs vs1 δ g x) → k (acc ++ ds.flatMap g) δ → wGo2 b t wi1 b1 t1 el vs vs1 k ds acc δ
  | [], acc, _, h => by
    have h : k (acc ++ []) δ := h
    rw [List.append_nil] at h
    exact h
  | x :: r, acc, ht, h => by
    refine ht x List.mem_cons_self acc (fun acc' δ4 => wGo2 b t wi1 b1 t1 el vs vs1 k r acc' δ4) ?_
    refine go2_pure g r _ (fun z hz => ht z (List.mem_cons_of_mem _ hz)) ?_
    rw [List.flatMap_cons] at h
    rw [List.append_assoc]
    exact h
end
/-- for with an invariant -/
theorem loop_inv {b : WB} {wb : WS} {P : DEnds} (I : Nat → Dl → Prop) (ds0 : List PyData) (turn : ∀ n x δ (C : Dl → Prop), ds0[n]? = some x → I n δ → (∀ δ', I (n + 1) δ' → C δ') → b x δ fun δ1 => wb { P with nx := C, ct := C, bk := P.nx } δ1) :
    ∀ (ds : List PyData) (δ : Dl) (n : Nat), ds = ds0.drop n → n ≤ ds0.length → I n δ → (∀ δ, I ds0.length δ → P.nx δ) → wLoop b wb P ds δ
  | [], δ, n, e, hn, hi, h => by
    have : ds0.length ≤ n := by
      have := congrArg List.length e
      rw [List.length_drop] at this
      simp at this
      omega
    have e2 : n = ds0.length := by omega
    rw [e2] at hi
    exact h δ hi
  | x :: r, δ, n, e, hn, hi, h => by
    have hlt : n < ds0.length := by
      have := congrArg List.length e
      rw [List.length_drop] at this
      simp at this
      omega
    rw [List.drop_eq_getElem_cons hlt] at e
    injection e with e1 e2
    refine turn n x δ (fun δ' => wLoop b wb P r δ') (by rw [e1]; exact List.getElem?_eq_getElem hlt) hi fun δ' hi' => ?_
    exact loop_inv I ds0 turn r δ' (n + 1) e2 hlt hi' h
theorem rangeD_eq (lo : Int) : ∀ n, rangeD lo n = (List.range n).map fun i => PyData.int (lo + (i : Nat)) := by
  intro n
  apply List.ext_getElem?
  intro i
  by_cases h : i < n
  · rw [List.getElem?_map, List.getElem?_range h, List.getElem?_eq_getElem (by rw [rangeD_len]; exact h)]
    exact congrArg some (rangeD_get (List.getElem?_eq_getElem _))
  · rw [List.getElem?_eq_none (by rw [rangeD_len]; omega), List.getElem?_eq_none (by simp; omega)]
theorem mem_range {lo : Int} {n : Nat} {x : PyData} (h : x ∈ rangeD lo n) : ∃ i : Nat, i < n ∧ x = .int (lo + i) := by
  rw [rangeD_eq] at h
  obtain ⟨i, hi, e⟩ := List.mem_map.mp h
  exact ⟨i, List.mem_range.mp hi, e.symm⟩
theorem enumD_eq : ∀ (ds : List PyData) (k : Nat), enumD k ds = (ds.zipIdx k).map fun p => PyData.tuple [.int (p.2 : Nat), p.1]
  | [], _ => rfl
  | x :: r, k => by
    show PyData.tuple [.int k, x] :: enumD (k + 1) r = _
    rw [enumD_eq r (k + 1)]
    rfl
section
variable {x : PyData} {xs : List PyData} {i : Nat} {δ : Dl} {p : Prop} {k : Bool} {n : Int}
theorem as_d : (Rv.d x).as = x := rfl
theorem as_l : (Rv.l xs).as = .list xs := rfl
theorem as_b : (Rv.b i xs).as = .list xs := rfl
theorem noB_d : noB (.d x) = true := rfl
theorem noB_l : noB (.l xs) = true := rfl
theorem still_d : still (.d x) δ p = p := rfl
theorem still_l : still (.l xs) δ p = p := rfl
theorem still_b : still (.b i xs) δ p = (δ[i]? = some (Sl.o xs) ∧ p) := rfl
theorem put_d : putR δ i (.d x) = some (δ.set i (.d x)) := rfl
theorem put_l : putR δ i (.l xs) = some (δ.set i (.o xs)) := rfl
theorem tru_bool : truD (.bool k) = some k := rfl
theorem tru_tup : truD (.tuple xs) = some (!xs.isEmpty) := rfl
theorem tru_lst : truD (.list xs) = some (!xs.isEmpty) := rfl
theorem isT_tup : isTupD (.tuple xs) = some true := rfl
theorem isI_int : isIntD (.int n) = some true := rfl
theorem isB_int : isBoolD (.int n) = some false := rfl
theorem stillA_nil : stillAll [] δ p = p := rfl
theorem stillA_cons {r : Rv} {rs : List Rv} : stillAll (r :: rs) δ p = still r δ (stillAll rs δ p) := rfl
theorem map1 {α β : Type} {f : α → β} {a : α} : List.map f [a] = [f a] := rfl
theorem map2 {α β : Type} {f : α → β} {a b : α} : List.map f [a, b] = [f a, f b] := rfl
theorem map3 {α β : Type} {f : α → β} {a b c : α} : List.map f [a, b, c] = [f a, f b, f c] := rfl
theorem map0 {α β : Type} {f : α → β} : List.map f [] = [] := rfl
theorem len_l {P : Rv → Prop} : rLenD [.list xs] P = P (.d (.int xs.length)) := rfl
theorem len_t {P : Rv → Prop} : rLenD [.tuple xs] P = P (.d (.int xs.length)) := rfl
theorem tup_l {P : Rv → Prop} : rTupleD [.list xs] P = P (.d (.tuple xs)) := rfl
theorem tup_t {P : Rv → Prop} : rTupleD [.tuple xs] P = P (.d (.tuple xs)) := rfl
theorem lst_l {P : Rv → Prop} : rListD [.list xs] P = P (.l xs) := rfl
theorem lst_t {P : Rv → Prop} : rListD [.tuple xs] P = P (.l xs) := rfl
theorem max_i {a b : Int} {P : Rv → Prop} : rMax2D [.int a, .int b] P = P (.d (.int (if b > a then b else a))) := rfl
theorem min_i {a b : Int} {P : Rv → Prop} : rMin2D [.int a, .int b] P = P (.d (.int (if b < a then b else a))) := rfl
end
theorem law_start {K : PySem.W.Frag} {G : Hp} {a : Addr} {ns : List Int} {S : WE} {E : XK} (hS : S [.d (.list (ns.map PyData.int))] fun r _ => r = .d (.bool true)) (h : SqL K G a (ns.map V.int)) : spOf K S [.ref a] G (fun v _ => v = .bl true) E := by
  refine ⟨fun _ => False, _, _, ⟨rfl, fun i x e => ?_, fun i xs e => ?_, fun i j xs ys b e => ?_, fun _ z => z.elim, .none fun i s e => by cases i with | zero => cases e; rfl | succ i => simp at e⟩, hS, fun r δ' v H' p _ _ k => ?_⟩
  · cases i with
    | zero =>
      cases e
      have hs : SqL K (hid G fun _ => False) a (ns.map V.int) := sl_mono (fun b o e => by rw [hid_no (fun z => z)]; exact e) h
      exact ⟨.ref a, rfl, .lst hs (dp_ints ns)⟩
    | succ i => simp at e
  · cases i with
    | zero => cases e
    | succ i => simp at e
  · cases i with
    | zero => cases e
    | succ i => simp at e
  · subst p
    have k : Dp K (hid H' fun _ => False) v (.bool true) := k
    cases k
    rfl
end Dw

namespace Dw
open PySem PySem.Spec PyProof.Rows L2

/-! ### name = e, what comes is data from now on -/
section
variable {X : Cx} {st : Stmt} {e iter tg elt : Expr} {we el : WE} {w : WS} {wi : WI} {b : WB} {t : WT} {pos pos' spos py : Pos} {i : Nat} {x y : Str} {ifs : List Expr} {scope : Scope} {own : List (Str × Nat)} {js : List Nat}
def wSetD (i : Nat) (w : WE) : WS := fun P δ => w δ fun r δ1 => match r with
  | .d x => P.nx (δ1.set i (.d x))
  | .l xs => P.nx (δ1.set i (.d (.list xs)))
  | .b _ _ => False
theorem lift_setD (hi : i ≠ 0) {K : PySem.W.Frag} {D : Ends} {σ : L2.St} {H : Hp} (q : liftS K (wSetD i we) D σ H) : tAsg (lift K we) (gName i) D σ H := by
  obtain ⟨O, δ, P, R, w, E⟩ := q
  refine ⟨O, δ, _, R, w, fun r δ1 v H1 w1 s1 R1 k1 => ?_⟩
  cases r with
  | b j xs => exact w1.elim
  | d x => exact E.nx _ _ _ _ w1 (s1.tr.trans R R1 (bd_set.tr (by simpa using fun z => hi z.symm))) (rep_set R1 k1)
  | l xs => exact E.nx _ _ _ _ w1 (s1.tr.trans R R1 (bd_set.tr (by simpa using fun z => hi z.symm))) (rep_set R1 (rv_dp R k1 rfl))
theorem ds_setD (i : Nat) (hN : X.N.Nodup) (h : DE X e we) (h0 : i ≠ 0 := by decide) (hi : X.N[i]? = some x := by rfl) (hx : Loc X.env.scope x := by first | exact Or.inl rfl | exact Or.inr rfl) (hs : swapsWith e (some (.Name x pos')) pos.line X.env = pure false := by rfl)
    (hf : X.fn x = true ∨ X.env.scope.names.lookup x = some .local := by first | exact .inl rfl | exact .inr rfl) : DS X (.Assign [.Name x pos'] e pos) (wSetD i we) :=
  ps_weak (ps_set hN hi hx h hs hf) fun _ _ _ => lift_setD h0
theorem ds_setLcD (i : Nat) (hc : X.calm = true) (hN : X.N.Nodup) (hi : DI X tg iter wi) (ok : BlkOk X.N X.env.scope scope own)
    (hg : ∀ (s : Shared) (H : Hp) (C : Addr) (cl : List (Str × Addr)) (fp : List Addr), DG (X.blk s H scope (compEnvC scope cl C X.env) fp) tg js b) (ht : ∀ (s : Shared) (H : Hp) (C : Addr) (cl : List (Str × Addr)) (fp : List Addr), DTs (X.blk s H scope (compEnvC scope cl C X.env) fp) ifs t)
    (he : ∀ (s : Shared) (H : Hp) (C : Addr) (cl : List (Str × Addr)) (fp : List Addr), DE (X.blk s H scope (compEnvC scope cl C X.env) fp) elt el) (h0 : i ≠ 0 := by decide) (hy : X.N[i]? = some y := by rfl) (hyl : X.env.scope.names.lookup y = some .local := by rfl)
    (hsw : swapsWith (.ListComp elt [⟨tg, iter, ifs, 0⟩] scope pos) (some (.Name y py)) spos.line X.env = pure true := by exact sw_true rfl rfl rfl (by decide +kernel)) (hjs : ∀ j ∈ js, j ∈ own.map (·.2) := by decide) (hs : ∀ x, foldedSetIterable iter X.env x = pure x := by intro _; rfl) :
    DS X (.Assign [.Name y py] (.ListComp elt [⟨tg, iter, ifs, 0⟩] scope pos) spos) (wSetD i (wLc wi b t el (own.map (·.2)))) :=
  ps_weak (ps_setLc (wi := liftI X.K wi) (g := liftG X.K js b) (tt := liftT X.K t) (te := lift X.K el) hc hN hy hyl hsw hi ok hg ht he hs) fun D σ H q => lift_lc hjs (lift_setD h0 q)

/-! ### slots forgotten -/
def wForget (vs : List Nat) (w : WS) : WS := fun P δ => w P (wipeD δ vs)
theorem forget_at {δ : Dl} {vs : List Nat} {i : Nat} {s : Sl} (ns : s ≠ .un) (e : (wipeD δ vs)[i]? = some s) : δ[i]? = some s := by
  by_cases q : i ∈ vs
  · rw [(wipeD_get δ i vs).2 q] at e
    split at e
    · exact absurd (Option.some.inj e).symm ns
    · cases e
  · rw [(wipeD_get δ i vs).1 q] at e
    exact e
theorem rep_forget {K : PySem.W.Frag} {O : Addr → Prop} {δ : Dl} {σ : L2.St} {H : Hp} (vs : List Nat) (R : Rep K O δ σ H) : Rep K O (wipeD δ vs) σ H :=
  ⟨by rw [wipeD_len]; exact R.len, fun i x e => R.dat i x (forget_at (by intro z; cases z) e), fun i x e => R.lst i x (forget_at (by intro z; cases z) e), fun i j xs ys a e1 e2 => R.inj i j xs ys a (forget_at (by intro z; cases z) e1) (forget_at (by intro z; cases z) e2), R.occ,
    R.ex.at fun i s n e => ⟨forget_at (by intro z; rw [z] at n; cases n) e, rfl⟩⟩
theorem ds_forget (vs : List Nat) (h : DS X st w) (h0 : 0 ∉ vs := by decide) : DS X st (wForget vs w) := by
  refine ps_weak h fun D σ H ⟨O, δ, P, R, w, E⟩ => ?_
  have R1 := rep_forget vs R
  refine ⟨O, _, P, R1, w, E.after R R1 ⟨fun _ z => z, Same.refl _, fun _ z => .inl z, fun _ _ _ _ => rfl, fun xs a e1 e2 => ⟨⟨xs, ?_⟩, e2⟩, fun a ⟨i, xs, e1, e2⟩ => .inl ⟨i, xs, forget_at (by intro z; cases z) e1, e2⟩, fun a ⟨i, xs, e1, e2⟩ => .inl ⟨i, xs, forget_at (by intro z; cases z) e1, e2⟩⟩⟩
  rw [(wipeD_get δ 0 vs).1 h0]; exact e1
end

/-! ### t + u, xs + ys -/
section
variable {X : Cx} {a b : Expr} {wa wb : WE} {pos : Pos}
def rCatTD : R2D := fun d e P => match d, e with
  | .tuple xs, .tuple ys => xs.length + ys.length < 100000 ∧ P (.d (.tuple (xs ++ ys)))
  | _, _ => False
theorem de_catT (ha : DE X a wa) (hb : DE X b wb) : DE X (.BinOp a .Add b pos) (w2 rCatTD wa wb) := de_op op_catA (by
  intro G H x y d e P Q hx hy s r f
  unfold rCatTD at r
  split at r
  · rename_i xs ys
    have hx0 := hx
    have hy0 := hy
    obtain ⟨p, vs, rfl, h1, h2⟩ := hx.tup s
    obtain ⟨q, us, rfl, h3, h4⟩ := hy.tup s
    refine ⟨p, q, vs, us, rfl, rfl, h1, h3, Nat.le_of_lt (small5 (by rw [da_len h2, da_len h4]; exact r.1)), fun z => ?_, fun _ z => ?_, fun _ _ l hl => f.2.2 _ _ l r.2 (da_app h2 h4) hl⟩
    · subst z
      cases h2
      rcases hy0 with z | ⟨_, _, _, _, z, _⟩
      · exact f.1 _ _ r.2 z
      · cases z
    · subst z
      cases h4
      rcases hx0 with z | ⟨_, _, _, _, z, _⟩
      · refine f.1 _ _ r.2 ?_
        rw [List.append_nil]; exact z
      · cases z
  · exact r.elim) ha hb
def rCatL (K : PySem.W.Frag) : R2 := fun x y H Q => ∃ l b xs zs, x = .ref l ∧ y = .ref b ∧ SqL K H l xs ∧ SqL K H b zs ∧ xs.length + zs.length ≤ sizeLine ∧ ∀ p, H p = none → Q (.ref p) (upd H p (.lst (xs ++ zs)))
theorem op_catL : OpR X (binaryOp .Add) (rCatL X.K) := by
  intro pins s σ H x y v u Q I rx ry h
  obtain ⟨l, b, xs, zs, rfl, rfl, hH, hB, hz, q⟩ := h
  cases rx
  cases ry
  obtain ⟨its, r, ⟨⟨c1, d1, t1, s1⟩, n, ho, hc, hdn, hd⟩, hl⟩ := I.list hH
  obtain ⟨its2, r2, ⟨⟨c2, d2, t2, s2⟩, n2, ho2, hc2, hdn2, hd2⟩, hl2⟩ := I.list hB
  simp only at hc hd hc2 hd2
  subst hc hd hc2 hd2
  have ea : its.toArray ++ its2.toArray = (its ++ its2).toArray := by simp
  have z1 := r.length
  have z2 := r2.length
  refine concat_meets ⟨_, ho, rfl⟩ ⟨_, ho2, rfl⟩ noFill_list_add seq_list_add PySem.F.slot_list_add PySem.F.entry_list_add (PySem.F.args_list_add_2 _ _) (list_addW l b its.toArray its2.toArray n n2 d1 d2 s1 s2 (by rw [List.size_toArray, List.size_toArray]; omega)) ⟨ho, ho2, ?_⟩
  rw [ea]
  exact ⟨.ref _, _, I.lnew (t' := s.toks) (r.append r2) (by rw [List.length_append]; omega), rfl, q _ I.fresh⟩
def rCatLD : R2D := fun d e P => match d, e with
  | .list xs, .list ys => xs.length + ys.length < 100000 ∧ P (.l (xs ++ ys))
  | _, _ => False
theorem de_catL (ha : DE X a wa) (hb : DE X b wb) : DE X (.BinOp a .Add b pos) (w2 rCatLD wa wb) := de_op op_catL (by
  intro G H x y d e P Q hx hy s r f
  unfold rCatLD at r
  split at r
  · obtain ⟨p, vs, rfl, h1, h2⟩ := hx.lst s
    obtain ⟨q, us, rfl, h3, h4⟩ := hy.lst s
    exact ⟨p, q, vs, us, rfl, rfl, h1, h3, Nat.le_of_lt (small5 (by rw [da_len h2, da_len h4]; exact r.1)), fun l hl => f.2.1 _ _ l r.2 (da_app h2 h4) hl⟩
  · exact r.elim) ha hb
end
end Dw

namespace Dw
open PySem PySem.Spec PyProof.Rows L2

section
variable {X : Cx} {e : Expr} {we : WE} {pos p apos cpos : Pos} {y : Str}
/-- y.index(e) -/
def idxD (ys : List PyData) (x : PyData) : Option Nat := ys.findIdx? fun z => PyData.eqv z x
def wIdx1 (P : Rv → Dl → Prop) (ys : List PyData) (r : Rv) (δ1 : Dl) : Prop := match r with
  | .d x => (flat x = true ∧ ys.all flat = true) ∧ match idxD ys x with
    | some j => P (.d (.int j)) δ1
    | none => False
  | _ => False
def wIdx (i : Nat) (w : WE) : WE := fun δ P => match δ[i]? with
  | some (.d (.list ys)) => w δ fun r δ1 => wIdx1 P ys r δ1
  | _ => False
theorem de_index (i : Nat) (he : DE X e we) (hN : X.N[i]? = some y := by rfl) (hv : Vis X.env.scope y := by first | exact Or.inl rfl | exact Or.inr (Or.inl rfl) | exact Or.inr (Or.inr rfl)) (hy : (y == ("__debug__" : Str)) = false := by decide) (hcd : (y == ("__classdict__" : Str)) = false := by decide)
    (hbase : attributeBase (.Name y p) "index" X.env (eval (.Name y p) X.env) = eval (.Name y p) X.env := by rfl)
    (hfew : ((backTo cpos (starEach [e] X.env)).all (fun x => !x.1) && (backToKw cpos (keywordEach [] X.env)).all (fun x => x.1.isSome) && decide ([e].length + ([] : List Keyword).length + (if ([] : List Keyword).isEmpty then 0 else 1) < 30)) = true := by rfl)
    (hline : (apos.endLine == cpos.line) = true := by rfl) (hs : starEach [e] X.env = (false, eval e X.env) :: starEach [] X.env := by rfl) :
    DE X (.Call (.Attribute (.Name y p) "index" apos) [e] [] cpos) (wIdx i we) := by
  refine pe_weak (pe_bm PySem.F.plainAttrs_list PySem.F.slot_list_index PySem.F.type_list_index mt_index (pe_var hN hv hy hcd) (pa_cons he pa_nil hs) hbase hfew hline hs) fun σ H Q ⟨O, δ, P, R0, w, f⟩ => ?_
  unfold wIdx at w
  split at w
  · rename_i ys e0
    obtain ⟨v0, ea, d0⟩ := R0.dat i _ e0
    cases d0 with
    | lst hq ha =>
      rename_i a us
      refine ⟨.ref a, ea, .inl ⟨rfl, us, sl_mono hid_le hq⟩, O, δ, _, R0, w, fun r δ1 v H1 w1 s1 R1 k1 => ?_⟩
      unfold wIdx1 at w1
      split at w1
      · rename_i x
        obtain ⟨⟨f1, f2⟩, w1⟩ := w1
        split at w1
        · rename_i j ej
          have dx : Dp X.K (hid H1 O) v x := k1
          have ha1 := DpAll.up ha s1.same
          obtain ⟨hj, ez, hlt⟩ := List.findIdx?_eq_some_iff_getElem.mp ej
          obtain ⟨vz, g1, g2⟩ := da_get ha1 (List.getElem?_eq_getElem hj)
          have fz : flat ys[j] = true := List.all_eq_true.mp f2 _ (List.getElem_mem hj)
          refine ⟨a, us, v, j, vz, rfl, rfl, sl_mono (s1.same.trans hid_le) hq, dp_flat dx f1, da_flat ha1 f2, g1, ?_, fun m z' hm ez' => ?_, f _ _ _ _ w1 s1 R1 (.int _)⟩
          · rw [dp_eqv g2 dx fz f1]; exact ez
          · obtain ⟨dz, q1, q2⟩ := da_getV ha1 ez'
            obtain ⟨hm2, q1⟩ := List.getElem?_eq_some_iff.mp q1
            rw [dp_eqv q2 dx (by rw [← q1]; exact List.all_eq_true.mp f2 _ (List.getElem_mem hm2)) f1]
            have := hlt m hm
            rw [q1] at this
            simpa using this
        · exact w1.elim
      · exact w1.elim
  · exact w.elim
/-- y.extend(e), e a new list -/
def wExtL1 (i : Nat) (P : Rv → Dl → Prop) (r : Rv) (δ1 : Dl) : Prop := match δ1[i]?, r with
  | some (.o xs), .l ys => xs.length + ys.length < 100000 ∧ P (.d .none) (δ1.set i (.o (xs ++ ys)))
  | _, _ => False
def wExtL (i : Nat) (w : WE) : WE := fun δ P => match δ[i]? with
  | some (.o _) => w δ fun r δ1 => wExtL1 i P r δ1
  | _ => False
theorem de_extendL (i : Nat) (he : DE X e we) (hN : X.N[i]? = some y := by rfl) (hv : Vis X.env.scope y := by first | exact Or.inl rfl | exact Or.inr (Or.inl rfl) | exact Or.inr (Or.inr rfl)) (hy : (y == ("__debug__" : Str)) = false := by decide) (hcd : (y == ("__classdict__" : Str)) = false := by decide)
    (hbase : attributeBase (.Name y p) "extend" X.env (eval (.Name y p) X.env) = eval (.Name y p) X.env := by rfl)
    (hfew : ((backTo cpos (starEach [e] X.env)).all (fun x => !x.1) && (backToKw cpos (keywordEach [] X.env)).all (fun x => x.1.isSome) && decide ([e].length + ([] : List Keyword).length + (if ([] : List Keyword).isEmpty then 0 else 1) < 30)) = true := by rfl)
    (hline : (apos.endLine == cpos.line) = true := by rfl) (hs : starEach [e] X.env = (false, eval e X.env) :: starEach [] X.env := by rfl) :
    DE X (.Call (.Attribute (.Name y p) "extend" apos) [e] [] cpos) (wExtL i we) := by
  refine pe_weak (pe_bm PySem.F.plainAttrs_list PySem.F.slot_list_extend PySem.F.type_list_extend mt_extA (pe_var hN hv hy hcd) (pa_cons he pa_nil hs) hbase hfew hline hs) fun σ H Q ⟨O, δ, P, R0, w, f⟩ => ?_
  unfold wExtL at w
  split at w
  · rename_i xs0 e0
    obtain ⟨a, us, ea, oa, e2, _⟩ := R0.lst i xs0 e0
    refine ⟨.ref a, ea, .inl ⟨rfl, us, .inl (.inl e2)⟩, O, δ, _, R0, w, fun r δ1 v H1 w1 s1 R1 k1 => ?_⟩
    unfold wExtL1 at w1
    split at w1
    · rename_i xs ys e1
      obtain ⟨a', vs, ea', oa', e3, d⟩ := R1.lst i xs e1
      rw [ea] at ea'; cases ea'
      obtain ⟨l, zs, rfl, n, el, ha, hr⟩ := k1
      have ha := DpAll.up ha (hid_sub fun a z => .inl z)
      obtain ⟨s2, R2⟩ := upd_own R1 e1 ea (da_app d ha)
      exact ⟨a, l, vs, zs, rfl, rfl, e3, .inl el, Nat.le_of_lt (small5 (by rw [da_len d, da_len ha]; exact w1.1)), f _ _ _ _ w1.2 (s1.trans s2) R2 .non⟩
    · exact w1.elim
  · exact w.elim
end

/-! ### dicts -/
def getM (kvs : List (List Int × PyData)) (ks : List Int) : Option PyData := (kvs.find? fun kv => decide (kv.1 = ks)).map (·.2)
def putM (kvs : List (List Int × PyData)) (ks : List Int) (v : PyData) : List (List Int × PyData) :=
  if (kvs.any fun kv => decide (kv.1 = ks)) = true then kvs.map (fun kv => if kv.1 = ks then (kv.1, v) else kv) else kvs ++ [(ks, v)]
theorem ky_inj {ks ls : List Int} : ky ks = ky ls ↔ ks = ls := List.map_inj_right (fun _ _ h => Sum.inl.inj h)
section
variable {K : PySem.W.Frag} {G : Hp} {ks : List Int}
theorem kv_len : ∀ {us : List (List Key × V)} {kvs : List (List Int × PyData)}, KvOk K G us kvs → us.length = kvs.length
  | [], [], _ => rfl
  | _ :: us, _ :: kvs, ⟨_, _, h⟩ => by rw [List.length_cons, List.length_cons, kv_len h]
  | [], _ :: _, h => h.elim
  | _ :: _, [], h => h.elim
theorem kv_get : ∀ {us : List (List Key × V)} {kvs : List (List Int × PyData)}, KvOk K G us kvs → (valV us (ky ks) = none ∧ getM kvs ks = none) ∨ ∃ v d, valV us (ky ks) = some v ∧ getM kvs ks = some d ∧ Dp K G v d
  | [], [], _ => .inl ⟨rfl, rfl⟩
  | p :: us, q :: kvs, ⟨h1, h2, h3⟩ => by
    by_cases e : q.1 = ks
    · refine .inr ⟨p.2, q.2, valV_pos (by rw [h1, e]), ?_, h2⟩
      unfold getM
      rw [List.find?_cons_of_pos (by simpa using e)]
      rfl
    · have e2 : ¬ p.1 = ky ks := by rw [h1, ky_inj]; exact e
      rw [valV_neg e2]
      have : getM (q :: kvs) ks = getM kvs ks := by
        unfold getM
        rw [List.find?_cons_of_neg (by simpa using e)]
      rw [this]
      exact kv_get h3
  | [], _ :: _, h => h.elim
  | _ :: _, [], h => h.elim
theorem kv_any : ∀ {us : List (List Key × V)} {kvs : List (List Int × PyData)}, KvOk K G us kvs → (us.any fun kv => decide (kv.1 = ky ks)) = (kvs.any fun kv => decide (kv.1 = ks))
  | [], [], _ => rfl
  | p :: us, q :: kvs, ⟨h1, h2, h3⟩ => by
    rw [List.any_cons, List.any_cons, kv_any h3, h1]
    congr 1
    exact decide_eq_decide.mpr ky_inj
  | [], _ :: _, h => h.elim
  | _ :: _, [], h => h.elim
theorem kv_map {v : V} {d : PyData} (hd : Dp K G v d) : ∀ {us : List (List Key × V)} {kvs : List (List Int × PyData)}, KvOk K G us kvs → KvOk K G (us.map fun kv => if kv.1 = ky ks then (kv.1, v) else kv) (kvs.map fun kv => if kv.1 = ks then (kv.1, d) else kv)
  | [], [], _ => trivial
  | p :: us, q :: kvs, ⟨h1, h2, h3⟩ => by
    rw [List.map_cons, List.map_cons]
    by_cases e : q.1 = ks
    · rw [if_pos (by rw [h1, e]), if_pos e]
      exact ⟨h1, hd, kv_map hd h3⟩
    · rw [if_neg (by rw [h1, ky_inj]; exact e), if_neg e]
      exact ⟨h1, h2, kv_map hd h3⟩
  | [], _ :: _, h => h.elim
  | _ :: _, [], h => h.elim
theorem kv_snoc {v : V} {d : PyData} (hd : Dp K G v d) : ∀ {us : List (List Key × V)} {kvs : List (List Int × PyData)}, KvOk K G us kvs → KvOk K G (us ++ [(ky ks, v)]) (kvs ++ [(ks, d)])
  | [], [], _ => ⟨rfl, hd, trivial⟩
  | p :: us, q :: kvs, ⟨h1, h2, h3⟩ => ⟨h1, h2, kv_snoc hd h3⟩
  | [], _ :: _, h => h.elim
  | _ :: _, [], h => h.elim
theorem kv_put {v : V} {d : PyData} (hd : Dp K G v d) {us : List (List Key × V)} {kvs : List (List Int × PyData)} (h : KvOk K G us kvs) : KvOk K G (putK us (ky ks) v) (putM kvs ks d) := by
  unfold putK putM
  rw [kv_any h]
  split
  · exact kv_map hd h
  · exact kv_snoc hd h
end
section
variable {X : Cx} {a b c : Expr} {wa wc : WE} {ua : WA} {es : List Expr} {pos p p2 px py pz pt pt2 pos' : Pos} {x y z : Str} {kt k2 : Nat}
/-- len(d) -/
def wLenM (i : Nat) : WE := fun δ P => match δ[i]? with
  | some (.m kvs) => P (.d (.int kvs.length)) δ
  | _ => False
theorem de_lenM (i : Nat) (hg : Gl X "len") (hm : X.mg "len" = none) (hN : X.N[i]? = some y := by rfl) (hv : Vis X.env.scope y := by first | exact Or.inl rfl | exact Or.inr (Or.inl rfl) | exact Or.inr (Or.inr rfl)) (hy : (y == ("__debug__" : Str)) = false := by decide) (hcd : (y == ("__classdict__" : Str)) = false := by decide)
    (he : starEach [.Name y py] X.env = (false, eval (.Name y py) X.env) :: starEach [] X.env := by rfl) : DE X (.Call (.Name "len" p) [.Name y py] [] pos) (wLenM i) := by
  refine pe_weak (pe_callB (call_len_dT (X := X)) hg hm PySem.boot_len (pa_cons (pe_var hN hv hy hcd) pa_nil he) (by decide) (by decide) he rfl) fun σ H Q ⟨O, δ, P, R0, w, f⟩ => ?_
  unfold wLenM at w
  split at w
  · rename_i kvs e
    obtain ⟨a, us, ea, oa, e2, d⟩ := R0.ex.m i kvs e
    exact ⟨.ref a, ea, a, us, rfl, e2, f _ _ _ _ w Stp.refl R0 (by rw [kv_len d]; exact .int _)⟩
  · exact w.elim
/-- k not in d -/
def wNotInM (ik id : Nat) : WT := fun δ P => match δ[ik]?, δ[id]? with
  | some (.k ks), some (.m kvs) => P (!(getM kvs ks).isSome) δ
  | _, _ => False
theorem dget {K : PySem.W.Frag} {O : Addr → Prop} {δ : Dl} {σ : L2.St} {H : Hp} {ik id : Nat} {ks : List Int} {kvs : List (List Int × PyData)} (R : Rep K O δ σ H) (e1 : δ[ik]? = some (.k ks)) (e2 : δ[id]? = some (.m kvs)) :
    ∃ b a us, σ[ik]? = some (some (.ref b)) ∧ σ[id]? = some (some (.ref a)) ∧ O a ∧ H a = some (.dT us) ∧ H b = some (.tup ((ky ks).map kV)) ∧ KvOk K (hid H O) us kvs ∧ DGet H a (.ref b) (valV us (ky ks)) := by
  obtain ⟨b, q1, q2⟩ := R.ex.k ik ks e1
  obtain ⟨a, us, q3, oa, q4, d⟩ := R.ex.m id kvs e2
  have q5 := (hid_some q2).2
  exact ⟨b, a, us, q1, q3, oa, q4, q5, d, DGet.t q4 q5⟩
theorem dt_notinM (ik id : Nat) (hu : X.A.units + 64 < cLine) (hN : X.N[ik]? = some x := by rfl) (hv : Vis X.env.scope x := by first | exact Or.inl rfl | exact Or.inr (Or.inl rfl) | exact Or.inr (Or.inr rfl)) (hy : (x == ("__debug__" : Str)) = false := by decide) (hcd : (x == ("__classdict__" : Str)) = false := by decide)
    (hN2 : X.N[id]? = some y := by rfl) (hv2 : Vis X.env.scope y := by first | exact Or.inl rfl | exact Or.inr (Or.inl rfl) | exact Or.inr (Or.inr rfl)) (hy2 : (y == ("__debug__" : Str)) = false := by decide) (hcd2 : (y == ("__classdict__" : Str)) = false := by decide) :
    DT X (.Compare (.Name x px) [.NotIn] [.Name y py] pos) (wNotInM ik id) := by
  refine pt_weak (pt_cmp (pc_dnotin (by omega) (pe_var hN hv hy hcd) (pe_var hN2 hv2 hy2 hcd2)) rfl) fun σ H Q ⟨O, δ, P, R0, w, f⟩ => ?_
  unfold wNotInM at w
  split at w
  · rename_i ks kvs e1 e2
    obtain ⟨b, a, us, q1, q2, oa, q3, q4, d, g⟩ := dget R0 e1 e2
    refine ⟨.ref b, q1, .ref a, q2, a, _, rfl, g, _, rfl, f _ _ _ ?_ Stp.refl R0⟩
    rcases kv_get (ks := ks) d with ⟨z1, z2⟩ | ⟨v, dv, z1, z2, _⟩
    · rw [z1]; rw [z2] at w; exact w
    · rw [z1]; rw [z2] at w; exact w
  · exact w.elim
/-- d[k] -/
def wGetM (id ik : Nat) : WE := fun δ P => match δ[ik]?, δ[id]? with
  | some (.k ks), some (.m kvs) => match getM kvs ks with
    | some z => P (.d z) δ
    | none => False
  | _, _ => False
theorem de_getM (id ik : Nat) (hu : X.A.units + 64 < cLine) (hN : X.N[ik]? = some x := by rfl) (hv : Vis X.env.scope x := by first | exact Or.inl rfl | exact Or.inr (Or.inl rfl) | exact Or.inr (Or.inr rfl)) (hy : (x == ("__debug__" : Str)) = false := by decide) (hcd : (x == ("__classdict__" : Str)) = false := by decide)
    (hN2 : X.N[id]? = some y := by rfl) (hv2 : Vis X.env.scope y := by first | exact Or.inl rfl | exact Or.inr (Or.inl rfl) | exact Or.inr (Or.inr rfl)) (hy2 : (y == ("__debug__" : Str)) = false := by decide) (hcd2 : (y == ("__classdict__" : Str)) = false := by decide) (hs : NoSl (.Name x px) := by exact fun _ _ => rfl) :
    DE X (.Subscript (.Name y py) (.Name x px) pos) (wGetM id ik) := by
  refine pe_weak (pe_dget (by omega) (pe_var hN2 hv2 hy2 hcd2) (pe_var hN hv hy hcd) hs) fun σ H Q ⟨O, δ, P, R0, w, f⟩ => ?_
  unfold wGetM at w
  split at w
  · rename_i ks kvs e1 e2
    obtain ⟨b, a, us, q1, q2, oa, q3, q4, d, g⟩ := dget R0 e1 e2
    rcases kv_get (ks := ks) d with ⟨z1, z2⟩ | ⟨v, dv, z1, z2, dd⟩
    · rw [z2] at w; exact w.elim
    · rw [z2] at w
      rw [z1] at g
      exact ⟨.ref a, q2, .ref b, q1, a, v, rfl, g, f _ _ _ _ w Stp.refl R0 dd⟩
  · exact w.elim
/-- d[k] = e -/
def wPutM1 (id ik : Nat) (P : DEnds) (r : Rv) (δ1 : Dl) : Prop := match δ1[ik]?, δ1[id]?, r with
  | some (.k ks), some (.m kvs), .d x => kvs.length < 100000 ∧ P.nx (δ1.set id (.m (putM kvs ks x)))
  | _, _, _ => False
def wPutM (id ik : Nat) (w : WE) : WS := fun P δ => w δ fun r δ1 => wPutM1 id ik P r δ1
theorem upd_ownM {K : PySem.W.Frag} {O : Addr → Prop} {δ : Dl} {σ : L2.St} {H : Hp} {id : Nat} {kvs kvs' : List (List Int × PyData)} {a : Addr} {us : List (List Key × V)} (R : Rep K O δ σ H) (e : δ[id]? = some (.m kvs)) (ea : σ[id]? = some (some (.ref a))) (d : KvOk K (hid H O) us kvs') (h0 : id ≠ 0) :
    Tr O O δ (δ.set id (.m kvs')) σ σ H (upd H a (.dT us)) ∧ Rep K O (δ.set id (.m kvs')) σ (upd H a (.dT us)) := by
  obtain ⟨a', us', q1, oa, q2, _⟩ := R.ex.m id kvs e
  rw [ea] at q1; cases q1
  have hi : id < δ.length := (List.getElem?_eq_some_iff.mp e).1
  have lk : ∀ (j : Nat) (s : Sl), (∀ z, s ≠ .m z) → (δ.set id (.m kvs'))[j]? = some s → δ[j]? = some s := fun j s ns q => by
    rw [get_set] at q
    by_cases h : id = j
    · rw [if_pos h, if_pos hi] at q
      exact absurd (Option.some.inj q).symm (ns _)
    · rw [if_neg h] at q; exact q
  have nl : ∀ (j : Nat) xs b, δ[j]? = some (.o xs) → σ[j]? = some (some (.ref b)) → b ≠ a := fun j xs b z1 z2 z3 => by
    obtain ⟨b', vs, w1, _, w2, _⟩ := R.lst j xs z1
    rw [z2] at w1; cases w1
    rw [z3, q2] at w2; cases w2
  have toM : ∀ (j : Nat) ls, (δ.set id (.m kvs'))[j]? = some (Sl.m ls) → ∃ ls', δ[j]? = some (.m ls') ∧ (j = id ∧ ls = kvs' ∨ j ≠ id ∧ ls = ls') := fun j ls q => by
    rw [get_set] at q
    by_cases h : id = j
    · rw [if_pos h, if_pos hi] at q
      cases q
      exact ⟨kvs, h ▸ e, .inl ⟨h.symm, rfl⟩⟩
    · rw [if_neg h] at q; exact ⟨ls, q, .inr ⟨fun z => h z.symm, rfl⟩⟩
  refine ⟨⟨fun _ z => z, by rw [hid_upd oa]; exact Same.refl _, fun _ z => .inl z, fun b ob no nm => upd_ne fun z => nm ⟨id, kvs, e, by rw [z]; exact ea⟩, fun xs b z1 z2 => ⟨⟨xs, by rw [List.getElem?_set_ne h0]; exact z1⟩, z2⟩, fun b ⟨j, xs, z1, z2⟩ => .inl ⟨j, xs, lk j _ (by intro z w; cases w) z1, z2⟩, fun b ⟨j, ls, z1, z2⟩ => ?_⟩,
    ⟨by rw [List.length_set]; exact R.len, fun j x q => ?_, fun j xs q => ?_, fun j k xs ys b z1 z2 => R.inj j k xs ys b (lk j _ (by intro z w; cases w) z1) (lk k _ (by intro z w; cases w) z2), fun b ob => ?_, ⟨fun j ls q => ?_, fun j k ls ms b z1 z2 z3 z4 => ?_, fun j ls q => ?_⟩⟩⟩
  · obtain ⟨ls', w, _⟩ := toM j ls z1
    exact .inl ⟨j, ls', w, z2⟩
  · rw [hid_upd oa]; exact R.dat j x (lk j _ (by intro z w; cases w) q)
  · have q := lk j _ (by intro z w; cases w) q
    obtain ⟨b, vs, w1, w2, w3, w4⟩ := R.lst j xs q
    exact ⟨b, vs, w1, w2, by rw [upd_ne (nl j xs b q w1)]; exact w3, by rw [hid_upd oa]; exact w4⟩
  · by_cases q : b = a
    · exact ⟨_, by rw [q, upd_same]⟩
    · rw [upd_ne q]; exact R.occ b ob
  · obtain ⟨ls', w, z⟩ := toM j ls q
    rcases z with ⟨z1, z2⟩ | ⟨z1, z2⟩
    · subst z1 z2
      exact ⟨a, us, ea, oa, upd_same, by rw [hid_upd oa]; exact d⟩
    · subst z2
      obtain ⟨b, vs, w1, w2, w3, w4⟩ := R.ex.m j ls w
      have nb : b ≠ a := fun z => z1 (R.ex.i j id ls kvs b w e w1 (by rw [z]; exact ea))
      exact ⟨b, vs, w1, w2, by rw [upd_ne nb]; exact w3, by rw [hid_upd oa]; exact w4⟩
  · obtain ⟨l1, w1, _⟩ := toM j ls z1
    obtain ⟨l2, w2, _⟩ := toM k ms z2
    exact R.ex.i j k l1 l2 b w1 w2 z3 z4
  · obtain ⟨b, w1, w2⟩ := R.ex.k j ls (lk j _ (by intro z w; cases w) q)
    exact ⟨b, w1, by rw [hid_upd oa]; exact w2⟩
theorem ds_putM (id ik : Nat) (hu : X.A.units + 64 < cLine) (hc : DE X c wc) (h0 : id ≠ 0 := by decide) (hN : X.N[ik]? = some x := by rfl) (hv : Vis X.env.scope x := by first | exact Or.inl rfl | exact Or.inr (Or.inl rfl) | exact Or.inr (Or.inr rfl)) (hy : (x == ("__debug__" : Str)) = false := by decide) (hcd : (x == ("__classdict__" : Str)) = false := by decide)
    (hN2 : X.N[id]? = some y := by rfl) (hv2 : Vis X.env.scope y := by first | exact Or.inl rfl | exact Or.inr (Or.inl rfl) | exact Or.inr (Or.inr rfl)) (hy2 : (y == ("__debug__" : Str)) = false := by decide) (hcd2 : (y == ("__classdict__" : Str)) = false := by decide)
    (hs : swapsWith c (some (.Subscript (.Name y py) (.Name x px) pos')) pos.line X.env = pure false := by rfl) :
    DS X (.Assign [.Subscript (.Name y py) (.Name x px) pos'] c pos) (wPutM id ik wc) := by
  refine ps_weak (ps_dput (by omega) (pe_var hN2 hv2 hy2 hcd2) (pe_var hN hv hy hcd) hc hs) fun D σ H ⟨O, δ, P, R0, w, E⟩ => ?_
  refine ⟨O, δ, _, R0, w, fun r δ1 v H1 w1 s1 R1 k1 => ?_⟩
  unfold wPutM1 at w1
  split at w1
  · rename_i ks kvs x e1 e2
    obtain ⟨b, a, us, q1, q2, oa, q3, q4, d, g⟩ := dget R1 e1 e2
    obtain ⟨t, R2⟩ := upd_ownM R1 e2 q2 (kv_put (ks := ks) k1 d) h0
    exact ⟨.ref a, q2, .ref b, q1, a, _, rfl, DPut.t q3 q4 (small5 (by rw [kv_len d]; exact w1.1)), E.nx _ _ _ _ w1.2 (s1.tr.trans R0 R1 t) R2⟩
  · exact w1.elim
/-- name = (ints), to be a key -/
def intsR : List Rv → Option (List Int)
  | [] => some []
  | .d (.int i) :: r => (intsR r).map (i :: ·)
  | _ :: _ => none
def wSetK (i : Nat) (u : WA) : WS := fun P δ => u δ fun rs δ1 => match intsR rs with
  | some ks => ks.length ≤ 1000 ∧ P.nx (δ1.set i (.k ks))
  | none => False
theorem ints_vs {K : PySem.W.Frag} {O : Addr → Prop} {σ : L2.St} {δ' : Dl} {H H' : Hp} : ∀ {vs : List V} {rs : List Rv} {ks : List Int}, RvsOk K O σ δ' H H' vs rs → intsR rs = some ks → vs = (ky ks).map kV
  | [], [], ks, _, e => by cases e; rfl
  | v :: vs, r :: rs, ks, h, e => by
    unfold intsR at e
    split at e
    · rename_i h0; cases h0
    · rename_i i r' h0
      cases h0
      cases q : intsR rs with
      | none => rw [q] at e; cases e
      | some l =>
        rw [q] at e
        cases e
        obtain ⟨h1, h2⟩ := h
        have ih := ints_vs h2 q
        rw [ih]
        obtain ⟨δ3, H3, k1, _⟩ := h1
        have k1 : Dp K (hid H3 O) v (.int i) := k1
        cases k1
        rfl
    · cases e
  | [], _ :: _, _, h, _ => h.elim
  | _ :: _, [], _, h, _ => h.elim
theorem set_ways {δ : Dl} {i j : Nat} {s s' : Sl} (e : (δ.set j s)[i]? = some s') : (j = i ∧ j < δ.length ∧ s' = s) ∨ (j ≠ i ∧ δ[i]? = some s') := by
  rw [get_set] at e
  by_cases h : j = i
  · rw [if_pos h] at e
    split at e
    · cases e; exact .inl ⟨h, by assumption, rfl⟩
    · cases e
  · rw [if_neg h] at e; exact .inr ⟨h, e⟩
section
variable {K : PySem.W.Frag} {O : Addr → Prop} {δ : Dl} {σ : L2.St} {H : Hp} {j : Nat} {l : Addr}
theorem rep_setK {ks : List Int} (R : Rep K O δ σ H) (e : hid H O l = some (.tup ((ky ks).map kV))) : Rep K O (δ.set j (.k ks)) (σ.set j (some (.ref l))) H := by
  have nk : ∀ (i : Nat) (s : Sl), (∀ z, s ≠ .k z) → (δ.set j (.k ks))[i]? = some s → δ[i]? = some s ∧ (σ.set j (some (.ref l)))[i]? = σ[i]? := fun i s ns q => by
    rcases set_ways q with ⟨_, _, z⟩ | ⟨h, z⟩
    · exact absurd z (ns _)
    · exact ⟨z, List.getElem?_set_ne h⟩
  refine ⟨by rw [List.length_set, List.length_set]; exact R.len, fun i x q => ?_, fun i xs q => ?_, fun i k xs ys b q1 q2 q3 q4 => ?_, R.occ, ⟨fun i ls q => ?_, fun i k ls ms b q1 q2 q3 q4 => ?_, fun i ls q => ?_⟩⟩
  · obtain ⟨q, z⟩ := nk i _ (by intro z w; cases w) q
    rw [z]; exact R.dat i x q
  · obtain ⟨q, z⟩ := nk i _ (by intro z w; cases w) q
    rw [z]; exact R.lst i xs q
  · obtain ⟨q1, z1⟩ := nk i _ (by intro z w; cases w) q1
    obtain ⟨q2, z2⟩ := nk k _ (by intro z w; cases w) q2
    rw [z1] at q3
    rw [z2] at q4
    exact R.inj i k xs ys b q1 q2 q3 q4
  · obtain ⟨q, z⟩ := nk i _ (by intro z w; cases w) q
    rw [z]; exact R.ex.m i ls q
  · obtain ⟨q1, z1⟩ := nk i _ (by intro z w; cases w) q1
    obtain ⟨q2, z2⟩ := nk k _ (by intro z w; cases w) q2
    rw [z1] at q3
    rw [z2] at q4
    exact R.ex.i i k ls ms b q1 q2 q3 q4
  · rcases set_ways q with ⟨h, hj, z⟩ | ⟨h, z⟩
    · cases z
      subst h
      exact ⟨l, by rw [List.getElem?_set_self (by rw [← R.len]; exact hj)], e⟩
    · rw [List.getElem?_set_ne h]
      exact R.ex.k i ls z
theorem bd_setK {ks : List Int} {v : V} : Bd [j] δ (δ.set j (.k ks)) σ (σ.set j (some v)) := by
  refine ⟨List.length_set, List.length_set, fun i h => List.getElem?_set_ne (fun z => h (by simp [z])), fun i h => List.getElem?_set_ne (fun z => h (by simp [z])), fun i xs h z => ?_, fun i xs h z => ?_⟩
  · obtain rfl : i = j := by simpa using h
    rcases set_ways z with ⟨_, _, z⟩ | ⟨h, _⟩
    · cases z
    · exact h rfl
  · obtain rfl : i = j := by simpa using h
    rcases set_ways z with ⟨_, _, z⟩ | ⟨h, _⟩
    · cases z
    · exact h rfl
theorem rep_setM (R : Rep K O δ σ H) (hO : O l) (e : H l = some (.dT [])) (no : ¬ OwnM δ σ l) : Rep K O (δ.set j (.m [])) (σ.set j (some (.ref l))) H := by
  have nk : ∀ (i : Nat) (s : Sl), (∀ z, s ≠ .m z) → (δ.set j (.m []))[i]? = some s → δ[i]? = some s ∧ (σ.set j (some (.ref l)))[i]? = σ[i]? := fun i s ns q => by
    rcases set_ways q with ⟨_, _, z⟩ | ⟨h, z⟩
    · exact absurd z (ns _)
    · exact ⟨z, List.getElem?_set_ne h⟩
  have mm : ∀ (i : Nat) ls b, (δ.set j (.m []))[i]? = some (Sl.m ls) → (σ.set j (some (.ref l)))[i]? = some (some (V.ref b)) → (j = i ∧ b = l) ∨ (j ≠ i ∧ δ[i]? = some (Sl.m ls) ∧ σ[i]? = some (some (V.ref b))) := fun i ls b q1 q2 => by
    rcases set_ways q1 with ⟨h, hj, z⟩ | ⟨h, z⟩
    · subst h
      rw [List.getElem?_set_self (by rw [← R.len]; exact hj)] at q2
      cases q2
      exact .inl ⟨rfl, rfl⟩
    · rw [List.getElem?_set_ne h] at q2
      exact .inr ⟨h, z, q2⟩
  refine ⟨by rw [List.length_set, List.length_set]; exact R.len, fun i x q => ?_, fun i xs q => ?_, fun i k xs ys b q1 q2 q3 q4 => ?_, R.occ, ⟨fun i ls q => ?_, fun i k ls ms b q1 q2 q3 q4 => ?_, fun i ls q => ?_⟩⟩
  · obtain ⟨q, z⟩ := nk i _ (by intro z w; cases w) q
    rw [z]; exact R.dat i x q
  · obtain ⟨q, z⟩ := nk i _ (by intro z w; cases w) q
    rw [z]; exact R.lst i xs q
  · obtain ⟨q1, z1⟩ := nk i _ (by intro z w; cases w) q1
    obtain ⟨q2, z2⟩ := nk k _ (by intro z w; cases w) q2
    rw [z1] at q3
    rw [z2] at q4
    exact R.inj i k xs ys b q1 q2 q3 q4
  · rcases set_ways q with ⟨h, hj, z⟩ | ⟨h, z⟩
    · cases z
      subst h
      exact ⟨l, [], by rw [List.getElem?_set_self (by rw [← R.len]; exact hj)], hO, e, trivial⟩
    · rw [List.getElem?_set_ne h]
      exact R.ex.m i ls z
  · rcases mm i ls b q1 q3 with ⟨z1, z2⟩ | ⟨z1, z2, z3⟩ <;> rcases mm k ms b q2 q4 with ⟨w1, w2⟩ | ⟨w1, w2, w3⟩
    · rw [← z1, ← w1]
    · exact absurd ⟨k, ms, w2, by rw [← z2]; exact w3⟩ no
    · exact absurd ⟨i, ls, z2, by rw [← w2]; exact z3⟩ no
    · exact R.ex.i i k ls ms b z2 w2 z3 w3
  · obtain ⟨q, z⟩ := nk i _ (by intro z w; cases w) q
    rw [z]; exact R.ex.k i ls q
end
theorem ds_setK (i : Nat) (hN : X.N.Nodup) (h : DA X es ua) (h0 : i ≠ 0 := by decide) (hi : X.N[i]? = some x := by rfl) (hx : Loc X.env.scope x := by first | exact Or.inl rfl | exact Or.inr rfl) (hs : swapsWith (.Tuple es kt pt) (some (.Name x pos')) pos.line X.env = pure false := by rfl)
    (hf : X.fn x = true ∨ X.env.scope.names.lookup x = some .local := by first | exact .inl rfl | exact .inr rfl) : DS X (.Assign [.Name x pos'] (.Tuple es kt pt) pos) (wSetK i ua) := by
  refine ps_weak (ps_set hN hi hx (pe_tup h) hs hf) fun D σ H ⟨O, δ, P, R, w, E⟩ => ?_
  refine ⟨O, δ, _, R, w, fun rs δ1 vs H1 w1 s1 R1 k1 => ?_⟩
  split at w1
  · rename_i ks ek
    have ev := ints_vs k1 ek
    subst ev
    refine ⟨?_, fun l hl => ?_⟩
    · unfold ky
      rw [List.length_map, List.length_map]
      exact Nat.le_of_lt (small1000 w1.1)
    · have R2 := R1.laid (o := .tup ((ky ks).map kV)) hl
      have R3 := rep_setK (j := i) (ks := ks) (l := l) R2 (by rw [hid_no (R1.fresh hl)]; exact upd_same)
      exact E.nx _ _ _ _ w1.2 ((s1.tr.trans R R1 (Stp.laid R1 hl).tr).trans R R2 (bd_setK.tr (by simpa using fun z => h0 z.symm))) R3
  · exact w1.elim
/-- a, b, c = e1, {}, e2 -/
def wTri (i j l : Nat) (wa wc : WE) : WS := fun P δ => wa δ fun r δ1 => noB r = true ∧ wc δ1 fun s δ2 => noB s = true ∧ match putR δ2 i r with
  | some δ3 => match putR (δ3.set j (.m [])) l s with
    | some δ4 => P.nx δ4
    | none => False
  | none => False
theorem heldV_set {K : PySem.W.Frag} {O : Addr → Prop} {G : Hp} {δ : Dl} {σ : L2.St} {H : Hp} {u v : V} {s : Rv} {i : Nat} {x : Sl} (h : HeldV K O G δ σ H u s) (n : ∀ ws, s = .l ws → (∀ xs, x ≠ .o xs) ∨ v ≠ u) : HeldV K O G (δ.set i x) (σ.set i (some v)) H u s := by
  cases s with
  | b i xs => exact h.elim
  | d x => exact h
  | l ws =>
    obtain ⟨p, vs, e1, op, n0, no, e2, d⟩ := h
    refine ⟨p, vs, e1, op, n0, fun ⟨k, ys, q1, q2⟩ => ?_, e2, d⟩
    rcases set_ways q1 with ⟨h, hj, z⟩ | ⟨h, z⟩
    · rcases n ws rfl with n | n
      · exact n ys z.symm
      · rw [get_set, if_pos h] at q2
        split at q2
        · cases q2; exact n e1.symm
        · cases q2
    · rw [List.getElem?_set_ne h] at q2
      exact no ⟨k, ys, z, q2⟩
theorem ds_tri (i j l : Nat) (hc : X.calm = true) (hN : X.N.Nodup) (ha : DE X a wa) (hcc : DE X c wc) (h0 : i ≠ 0 := by decide) (h1 : j ≠ 0 := by decide) (h2 : l ≠ 0 := by decide) (hi : X.N[i]? = some x := by rfl) (hj : X.N[j]? = some y := by rfl) (hl : X.N[l]? = some z := by rfl) (hij : i ≠ j := by decide) (hil : i ≠ l := by decide) (hjl : j ≠ l := by decide)
    (hx : X.env.scope.names.lookup x = some .local := by rfl) (hy : X.env.scope.names.lookup y = some .local := by rfl) (hz : X.env.scope.names.lookup z = some .local := by rfl)
    (hs1 : starEach [a, .Dict [] [] p, c] X.env = (false, eval a X.env) :: starEach [.Dict [] [] p, c] X.env := by rfl) (hs2 : starEach [.Dict [] [] p, c] X.env = (false, eval (.Dict [] [] p) X.env) :: starEach [c] X.env := by rfl) (hs3 : starEach [c] X.env = (false, eval c X.env) :: starEach [] X.env := by rfl)
    (hw : swappedStores [.Tuple [.Name x px, .Name y py, .Name z pz] kt pt] (.Tuple [a, .Dict [] [] p, c] k2 pt2) X.env = pure (some [x, y, z]) := by rfl) (hs : swapsWithSole [.Tuple [.Name x px, .Name y py, .Name z pz] kt pt] (.Tuple [a, .Dict [] [] p, c] k2 pt2) pos.line X.env = pure false := by rfl) :
    DS X (.Assign [.Tuple [.Name x px, .Name y py, .Name z pz] kt pt] (.Tuple [a, .Dict [] [] p, c] k2 pt2) pos) (wTri i j l wa wc) := by
  refine ps_weak (ps_par3 hc hN hi hj hl hij hil hjl hx hy hz (pa_cons ha (pa_cons pe_dnewT (pa_cons hcc pa_nil hs3) hs2) hs1) hw hs) fun D σ H ⟨O, δ, P, R, w, E⟩ => ?_
  refine ⟨O, δ, _, R, w, fun r δ1 v H1 w1 s1 R1 k1 => ?_⟩
  obtain ⟨nr, w1⟩ := w1
  obtain ⟨O1, a1, a2, a3, a4, a5, R1', hv1⟩ := hold_ok R s1 R1 k1 nr H fun _ z => z
  have tr1 : Tr O O1 δ δ1 σ σ H H1 := ⟨a1, a3, a2, fun a z n _ => a4 a z n, fun xs a e1 e2 => ⟨(a5 0).mpr ⟨xs, e1⟩, e2⟩, fun a z => .inl (s1.ownI z), fun a ⟨i, kvs, e1, e2⟩ => .inl ⟨i, kvs, s1.dct i kvs e1, e2⟩⟩
  intro q hq
  have R2 := R1'.laidO (o := .dT []) hq
  have nq : ¬ O1 q := R1'.fresh hq
  have tr2 : Tr O1 (fun a => O1 a ∨ a = q) δ1 δ1 σ σ H1 (upd H1 q (.dT [])) := ⟨fun _ z => .inl z, hid_newO hq, fun a z => z.imp id fun w => by rw [w]; exact hq, fun a z _ _ => upd_ne fun w => nq (w ▸ z), fun xs a e1 e2 => ⟨⟨xs, e1⟩, e2⟩, fun _ z => .inl z, fun _ z => .inl z⟩
  have tr12 := tr1.trans R R1' tr2
  refine ⟨_, δ1, _, R2, w1, fun s δ2 u H2 w2 s2 R2b k2 => ?_⟩
  obtain ⟨ns, w2⟩ := w2
  obtain ⟨O3, b1, b2, b3, b4, b5, R3, hv2⟩ := hold_ok R2 s2 R2b k2 ns H fun p z => tr12.back R R2 z
  have tr3 : Tr (fun a => O1 a ∨ a = q) O3 δ1 δ2 σ σ (upd H1 q (.dT [])) H2 := ⟨b1, b3, b2, fun a z n _ => b4 a z n, fun xs a e1 e2 => ⟨(b5 0).mpr ⟨xs, e1⟩, e2⟩, fun a z => .inl (s2.ownI z), fun a ⟨i, kvs, e1, e2⟩ => .inl ⟨i, kvs, s2.dct i kvs e1, e2⟩⟩
  have tr := tr12.trans R R2 tr3
  have noq : ¬ Own δ1 σ q := fun ⟨k, ys, e1, e2⟩ => by
    obtain ⟨a, us, e3, z, _⟩ := R1'.lst k ys e1
    rw [e3] at e2; cases e2
    exact nq z
  have nomq : ¬ OwnM δ2 σ q := fun ⟨k, ys, e1, e2⟩ => by
    obtain ⟨a, us, e3, z, _⟩ := R1'.ex.m k ys (s2.dct k ys e1)
    rw [e3] at e2; cases e2
    exact nq z
  have eq2 : H2 q = some (.dT []) := by rw [b4 q (.inr rfl) noq]; exact upd_same
  have hv1' : HeldV X.K O3 H δ2 σ H2 v r := by
    cases r with
    | b i xs => cases nr
    | d x => exact Dp.up (Dp.up hv1 (hid_newO hq)) b3
    | l xs =>
      obtain ⟨p, vs, e1, op, n0, no, e2, d⟩ := hv1
      have ne : p ≠ q := fun z => nq (z ▸ op)
      exact ⟨p, vs, e1, b1 p (.inl op), n0, fun z => no (s2.ownI z), by rw [b4 p (.inl op) no, upd_ne ne]; exact e2, DpAll.up (DpAll.up d (hid_newO hq)) b3⟩
  refine ⟨v, .ref q, u, rfl, ?_⟩
  split at w2
  · rename_i δ3 e3
    split at w2
    · rename_i δ4 e4
      obtain ⟨R4, tr4⟩ := held_put h0 R3 tr hv1' e3
      have nomq3 : ¬ OwnM δ3 (σ.set i (some v)) q := fun ⟨k, ys, z1, z2⟩ => by
        cases r with
        | b i xs => cases nr
        | d x =>
          cases e3
          rcases set_ways z1 with ⟨_, _, z⟩ | ⟨h, z⟩
          · cases z
          · rw [List.getElem?_set_ne h] at z2; exact nomq ⟨k, ys, z, z2⟩
        | l xs =>
          cases e3
          rcases set_ways z1 with ⟨_, _, z⟩ | ⟨h, z⟩
          · cases z
          · rw [List.getElem?_set_ne h] at z2; exact nomq ⟨k, ys, z, z2⟩
      have R5 := rep_setM (j := j) R4 (b1 q (.inr rfl)) eq2 nomq3
      have q0 : H q = none := tr1.back R R1' hq
      have tr5 : Tr O O3 δ (δ3.set j (.m [])) σ ((σ.set i (some v)).set j (some (.ref q))) H H2 := by
        refine ⟨tr4.sub, tr4.same, tr4.new, tr4.frame, fun xs a z1 z2 => ?_, fun a ⟨k, ys, z1, z2⟩ => ?_, fun a ⟨k, ys, z1, z2⟩ => ?_⟩
        · rw [List.getElem?_set_ne h1, List.getElem?_set_ne h1]; exact tr4.keep xs a z1 z2
        · rcases set_ways z1 with ⟨_, _, z⟩ | ⟨h, z⟩
          · cases z
          · rw [List.getElem?_set_ne h] at z2; exact tr4.own a ⟨k, ys, z, z2⟩
        · rcases set_ways z1 with ⟨h, _, z⟩ | ⟨h, z⟩
          · rw [get_set, if_pos h] at z2
            split at z2
            · cases z2; exact .inr q0
            · cases z2
          · rw [List.getElem?_set_ne h] at z2; exact tr4.ownM a ⟨k, ys, z, z2⟩
      have hv2' : HeldV X.K O3 H δ3 (σ.set i (some v)) H2 u s := by
        have key : ∀ ws, s = .l ws → ∀ x : Sl, (∃ xs, r = .l xs) ∨ (∀ xs, x ≠ .o xs) → (∀ xs, x ≠ .o xs) ∨ v ≠ u := fun ws es x hr => by
          rcases hr with ⟨xs, rfl⟩ | hr
          · subst es
            right
            intro z
            obtain ⟨p2, vs2, y1, y2, y3, y4, y5, _⟩ := hv1
            obtain ⟨p', vs', z1, z2, _⟩ := k2
            have z1 : u = .ref p' := z1
            rw [y1, z1] at z
            cases z
            have ne : p2 ≠ q := fun w => nq (w ▸ y2)
            rw [upd_ne ne] at z2
            rw [z2] at y5; cases y5
          · exact .inl hr
        cases r with
        | b i xs => cases nr
        | d x => cases e3; exact heldV_set hv2 fun ws es => key ws es _ (.inr (by intro xs z; cases z))
        | l xs => cases e3; exact heldV_set hv2 fun ws es => key ws es _ (.inl ⟨xs, rfl⟩)
      have hv2'' := heldV_set (i := j) (x := .m []) (v := .ref q) hv2' fun ws es => .inl (by intro xs z; cases z)
      obtain ⟨R6, tr6⟩ := held_put h2 R5 tr5 hv2'' e4
      exact E.nx _ _ _ _ w2 tr6 R6
    · exact w2.elim
  · exact w2.elim
end
end Dw

namespace Dw
open PySem PySem.Spec PyProof.Rows L2

/-! ### sorted(set(xs)), xs a list of few inn -/
abbrev noSet (w : World) : Obj := { cls := .type "set", dict := none, data := .set #[] 0 (.fresh 0 0 (!w.params.followText "set-order")) }
section
variable {P : Program} {w : World} {A : Around} {E : Value → Shared → Prop} {s : Shared}
theorem set_ints {x : Addr} {vs : Array Value} (ms : List Int) {Q : Value → Shared → Prop} (calm : A.handled = none) (isl : s.heap.IsList x vs) (inn : IntsAre vs.toList ms) (few : ms.length + 1 < scanBound)
    (fin : ∀ (k : Heap) (u c : Nat), SetR w k s.heap.objs.size (fun j => decide (j ∈ ms)) c → c ≤ ms.length → (∀ b o, s.heap.get? b = some o → k.get? b = some o) → Q (.ref s.heap.objs.size) { s with heap := k, toks := u }) :
    wpAny (model P w) A (call (.type "set") [.ref x]) Q E s := by
  have sz : vs.size = ms.length := by
    have z := IntsAre.length inn
    rwa [Array.length_toList] at z
  obtain ⟨cc, tt, mro⟩ := F.called_set.mro
  have made := F.called_set.made
  have isub := F.called_set.sub
  refine wpAny_call (codeAny_of_tree ?_)
  show wpAny _ _ (callAny (.type "set") _) _ _ _
  refine wpAny_pure ⟨Code.quiet_builtin _ (by decide +kernel), ?_⟩
  refine codeAny_builtin F.entry_type_call ?_
  rw [Around.under_plain (weight_type_call_type "set" [.ref x] []) rfl]
  have f1 := F.called_set.notType
  have f2 := F.called_set.canCreate
  have f3 := F.typeCall_set_1 (.ref x)
  repeat (any_goals (first | assumption | wp_step))
  refine codeAny_mono (code_set_led1 (.ref x) (E := E) (Q₁ := fun ob s1 => ob = .ref s.heap.objs.size ∧ s1 = { s with heap := s.heap.push (noSet w) }) ⟨rfl, rfl⟩) fun res s1 hres => ?_
  cases res with
  | error e => exact hres
  | ok fl =>
    cases fl with
    | ret ob =>
      obtain ⟨rfl, rfl⟩ := hres
      have at0 : (s.heap.push (noSet w)).get? s.heap.objs.size = some (noSet w) := Heap.get?_push_size _ rfl
      have ty0 : Shared.TypeIs { s with heap := s.heap.push (noSet w) } (.ref s.heap.objs.size) "set" := ⟨_, at0, rfl⟩
      have i1 := F.called_set.init.lookup
      have i2 := F.called_set.init.bind (.ref s.heap.objs.size)
      repeat (any_goals (first | assumption | wp_step))
      refine codeAny_mono (codeAny_call_builtin (R := wants (fun r s2 => r = .none ∧ ∃ k u c, s2 = { s with heap := k, toks := u } ∧ SetR w k s.heap.objs.size (fun j => decide (j ∈ ms)) c ∧ c ≤ ms.length ∧ (∀ b o, s.heap.get? b = some o → k.get? b = some o)) E)
        F.called_set.init.plain F.entry_set_init (check_set_init_1 ty0 ?_)) fun r2 s2 hr2 => ?_
      · obtain ⟨lo, lat, lc, ln, ld⟩ := isl
        obtain ⟨c1, d1, dt1, sl1⟩ := lo
        simp only at lc ld
        subst lc ld
        have lat' : (s.heap.push (noSet w)).get? x = some { cls := .type "list", dict := d1, data := .seq vs ln, slots := sl1 } := Heap.get?_push_of_some _ lat
        have n1 := F.sub_list_set
        have n2 := F.sub_list_frozenset
        have n3 : (Value.type "list" == Value.type "dict") = false := by decide
        have isl1 : (s.heap.push (noSet w)).IsList x vs := ⟨_, lat', rfl, ln, rfl⟩
        unfold Builtin.«set.__init__» noKeywords Builtin.Frozenset.updateFrom
        generalize ePI : pyIter = walker
        wp_walk
        subst ePI
        refine wpAny_pyIter_list isl1 ?_
        refine wpAny_bind (wpAny_runValue ?_)
        have xlt : x < s.heap.objs.size := Heap.lt_size lat
        have calm3 : A.in1.in1.in1.handled = none := by simp [calm]
        have xne : x ≠ (s.heap.push (noSet w)).objs.size := by
          rw [Heap.size_push]
          exact Nat.ne_of_lt (Nat.lt_succ_of_lt xlt)
        have sout : s.heap.objs.size ∉ [(s.heap.push (noSet w)).objs.size, x] := by
          rw [Heap.size_push]
          simp only [List.mem_cons, List.not_mem_nil, or_false, not_or]
          exact ⟨Nat.ne_of_lt (Nat.lt_succ_self _), Nat.ne_of_gt xlt⟩
        have item : ∀ (i : Nat) (v : Value), vs[i]? = some v → ∃ k t, ms[i]? = some k ∧ v = .int k t := fun i v hv => by
          have lt : i < ms.length := by rw [← sz]; exact (Array.getElem?_eq_some_iff.mp hv).1
          obtain ⟨t, e⟩ := IntsAre.int_at inn i v (by rw [Array.getElem?_toList]; exact hv)
          refine ⟨ms[i], t, List.getElem?_eq_getElem lt, ?_⟩
          rw [e, List.getD_eq_getElem?_getD, List.getElem?_eq_getElem lt] <;> rfl
        refine set_update_ints ((Walks.list calm3 _ x xne vs).toS) s.heap.objs.size sout ms sz few item (vs.size - 0) 0 _ (by omega) (Nat.zero_le _) ⟨⟨_, Heap.get?_push_size _ rfl, rfl, rfl⟩, (isl1.push _)⟩ ?new ?done
        case new =>
          have here : ((s.heap.push (noSet w)).push { cls := .type "list_iterator", data := .fields #[.ref x, .int 0 0] }).get? s.heap.objs.size = some (noSet w) := Heap.get?_push_of_some _ at0
          exact ⟨0, Nat.le_refl 0, setR_new_at here⟩
        case done =>
          intro s3 c3 mv lc3 set3
          obtain ⟨k3, g3, d3, t3, o3⟩ := s3
          have e1 : g3 = s.gens := mv.gens
          have e2 : d3 = s.drawn := mv.drawn
          have e3 : o3 = s.os := mv.os
          subst e1 e2 e3
          show wpAny _ _ _ _ _ _
          refine wpAny_pure ?_
          show wpAny _ _ (ret Value.none) _ _ _
          rw [sz] at lc3
          refine wpAny_pure ⟨rfl, k3, t3, c3, rfl, set3, lc3, fun b o e => ?_⟩
          have lt : b < s.heap.objs.size := Heap.lt_size e
          refine mv.heap b o ?_ (Heap.get?_push_of_some _ (Heap.get?_push_of_some _ e))
          simp only [List.mem_cons, List.not_mem_nil, or_false, not_or]
          rw [Heap.size_push]
          exact ⟨Nat.ne_of_lt lt, Nat.ne_of_lt (Nat.lt_succ_of_lt lt)⟩
      · cases r2 with
        | error e => exact hr2
        | ok fl2 =>
          cases fl2 with
          | ret r =>
            obtain ⟨rfl, k, u, c, rfl, y1, y2, y3⟩ := hr2
            repeat (any_goals (first | assumption | wp_step))
            exact fin _ _ _ y1 y2 y3
          | _ => exact hr2.elim
    | _ => exact hres.elim
end
section
variable {X : Cx} {a : Expr} {ta : TE} {wa : WE} {p p2 q pos : Pos}
def tSortSet (K : PySem.W.Frag) (ta : TE) : TE := fun σ H Q => ta σ H fun x H1 => ∃ (l : Addr) (ns : List Int), x = V.ref l ∧ SqL K H1 l (ns.map V.int) ∧ ns.length < 60 ∧ ∀ (ms : List Int) (b : Addr), ms.Pairwise (· < ·) → (∀ k : Int, k ∈ ms ↔ k ∈ ns) → H1 b = none → Q (.ref b) (upd H1 b (.lst (ms.map V.int)))
theorem pe_sortSet (hc : X.calm = true) (hg : Gl X "sorted") (hm : X.mg "sorted" = none) (hg2 : Gl X "set") (hm2 : X.mg "set" = none) (ha : PE X a ta) (na : starEach [a] X.env = (false, eval a X.env) :: starEach [] X.env := by rfl) :
    PE X (.Call (.Name "sorted" p) [.Call (.Name "set" p2) [a] [] q] [] pos) (tSortSet X.K ta) := by
  refine ⟨fun pins s σ H Q I h => ?_⟩
  refine Call_ (ld_blt I hg hm PyProof.Rows.boot_sorted ?_)
  refine PyProof.Rows.callWith_builtin1 (PyProof.Rows.args_cons ?_ rfl) rfl rfl
  refine Call_ (ld_blt I hg2 hm2 PyProof.Rows.boot_set ?_)
  refine PyProof.Rows.callWith_type1 (PyProof.Rows.args_cons (thn (ha.run pins s σ H _ I h) fun v s1 ⟨x, H1, I1, r1, q1⟩ => PyProof.Rows.args_nil ?_) na) na rfl
  obtain ⟨l, ns, rfl, hq, few, fin⟩ := q1
  cases r1
  obtain ⟨its, r, pl, hz⟩ := I1.list hq
  refine set_ints ns (I1.ok.hd hc) pl.isList (by simpa using RZ.intsAre_vals r) (by unfold scanBound; omega) fun k u c hS hc2 hk => ?_
  refine PyProof.Rows.args_nil ?_
  have I2 : Inv X pins σ H1 { s1 with heap := k, toks := u } := I1.kept fun b o e => hk b o e
  refine sorted_set (P := X.prog) hS (I1.ok.hd hc) (by omega) fun s' b out c3 ms keep hgen hos hb hget hi hsort hmem hlen => ?_
  have hl : (ms.map V.int).length ≤ sizeLine := by rw [List.length_map, hlen, sizeLine_eq]; omega
  have hn : H1 b = none := I2.hok.fresh hb
  have J : Inv X pins σ (upd H1 b (.lst (ms.map V.int))) { ({ s1 with heap := k, toks := u } : Shared) with heap := s'.heap, gens := s'.gens, drawn := s'.drawn, toks := s'.toks } :=
    I2.call (ch := []) (Un.laid keep hb hn) (I2.hok.laid keep hb ⟨hl, out.toList, c3, vals_of_ints hi, hget⟩) (by rw [hgen]; exact I1.bare) (fun _ z => nomatch z)
  have e : s' = { ({ s1 with heap := k, toks := u } : Shared) with heap := s'.heap, gens := s'.gens, drawn := s'.drawn, toks := s'.toks } := by
    cases s'
    cases s1
    cases hos
    rfl
  rw [e]
  exact ⟨.ref b, _, J, rfl, fin ms b hsort (fun z => (hmem z).trans decide_eq_true_iff) hn⟩
def wSortSet (w : WE) : WE := fun δ P => w δ fun r δ1 => match r with
  | .d (.list ds) => match intsD ds with
    | some ns => ns.length < 60 ∧ ∀ ms : List Int, ms.Pairwise (· < ·) → (∀ k : Int, k ∈ ms ↔ k ∈ ns) → P (.l (ms.map PyData.int)) δ1
    | none => False
  | _ => False
theorem de_sortedSet (hc : X.calm = true) (hg : Gl X "sorted") (hm : X.mg "sorted" = none) (hg2 : Gl X "set") (hm2 : X.mg "set" = none) (ha : DE X a wa) (na : starEach [a] X.env = (false, eval a X.env) :: starEach [] X.env := by rfl) :
    DE X (.Call (.Name "sorted" p) [.Call (.Name "set" p2) [a] [] q] [] pos) (wSortSet wa) := by
  refine pe_weak (pe_sortSet hc hg hm hg2 hm2 ha na) fun σ H Q ⟨O, δ, P, R0, w, f⟩ => ?_
  refine ⟨O, δ, _, R0, w, fun r δ1 v H1 w1 s1 R1 k1 => ?_⟩
  split at w1
  · rename_i ds
    split at w1
    · rename_i ns en
      have k1 : Dp X.K (hid H1 O) v (.list ds) := k1
      cases k1 with
      | lst hq hd =>
        have ev := ints_dp hd en
        subst ev
        refine ⟨_, ns, rfl, sl_mono hid_le hq, w1.1, fun ms b m1 m2 hb => (fin_of R0 s1 R1 f).2.1 _ _ b (w1.2 ms m1 m2) (dp_ints ms) hb⟩
    · exact w1.elim
  · exact w1.elim
end
end Dw

/-! dicts of ints as data: made by a comprehension, read by get -/
namespace Dw
open PySem PySem.Spec PyProof.Rows L2
def lookI {κ : Type} [DecidableEq κ] (kvs : List (κ × Int)) (k : κ) : Option Int := (kvs.find? fun p => decide (p.1 = k)).map (·.2)
def putI {κ : Type} [DecidableEq κ] (kvs : List (κ × Int)) (k : κ) (v : Int) : List (κ × Int) := if (kvs.any fun p => decide (p.1 = k)) = true then kvs.map (fun p => if p.1 = k then (p.1, v) else p) else kvs ++ [(k, v)]
def optD : Option Int → PyData
  | some v => .int v
  | none => .none
def optV : Option Int → V
  | some v => .int v
  | none => .non
theorem entKD_inj {p q : Int × Int} (h : entKD p = entKD q) : p = q := by
  obtain ⟨a, b⟩ := p
  obtain ⟨c, d⟩ := q
  unfold entKD at h
  simp only [Prod.mk.injEq, PyData.int.injEq] at h
  rw [h.1, h.2]
theorem ints_inj : ∀ {a b : List Int}, a.map PyData.int = b.map PyData.int → a = b
  | [], [], _ => rfl
  | [], _ :: _, h => by simp at h
  | _ :: _, [], h => by simp at h
  | x :: xs, y :: ys, h => by
    simp only [List.map_cons, List.cons.injEq, PyData.int.injEq] at h
    rw [h.1, ints_inj h.2]
theorem entTD_inj {p q : List Int × Int} (h : entTD p = entTD q) : p = q := by
  obtain ⟨a, b⟩ := p
  obtain ⟨c, d⟩ := q
  unfold entTD at h
  simp only [Prod.mk.injEq, PyData.int.injEq, PyData.tuple.injEq] at h
  rw [ints_inj h.1, h.2]
theorem dkD_inj {a b : List (Int × Int)} (h : dkD a = dkD b) : a = b := by
  simp only [dkD, PyData.dict.injEq, List.cons.injEq, true_and] at h
  exact (List.map_inj_right fun _ _ => entKD_inj).mp h
theorem dtD_inj {a b : List (List Int × Int)} (h : dtD a = dtD b) : a = b := by
  simp only [dtD, PyData.dict.injEq, List.cons.injEq, true_and] at h
  exact (List.map_inj_right fun _ _ => entTD_inj).mp h
theorem dp_dk {K : PySem.W.Frag} {G : Hp} {v : V} {kvs : List (Int × Int)} (h : Dp K G v (dkD kvs)) : ∃ a, v = .ref a ∧ G a = some (.dK (kvs.map entK)) := by
  generalize e : dkD kvs = d at h
  cases h with
  | dk h => cases dkD_inj e; exact ⟨_, rfl, h⟩
  | dt h => exact absurd e (by simp)
  | _ => exact absurd e (by simp)
theorem dp_dt {K : PySem.W.Frag} {G : Hp} {v : V} {kvs : List (List Int × Int)} (h : Dp K G v (dtD kvs)) : ∃ a, v = .ref a ∧ G a = some (.dT (kvs.map entT)) := by
  generalize e : dtD kvs = d at h
  cases h with
  | dt h => cases dtD_inj e; exact ⟨_, rfl, h⟩
  | dk h => exact absurd e (by simp)
  | _ => exact absurd e (by simp)
theorem find_map {α β : Type} (f : α → β) (p : β → Bool) : ∀ (l : List α), (l.map f).find? p = (l.find? fun x => p (f x)).map f
  | [] => rfl
  | x :: l => by
    rw [List.map_cons, List.find?_cons, List.find?_cons]
    cases p (f x) with
    | true => rfl
    | false => exact find_map f p l
theorem val_dk (kvs : List (Int × Int)) (k : Int) : valV (kvs.map entK) (Sum.inl k) = (lookI kvs k).map V.int := by
  unfold valV lookI
  rw [find_map]
  simp only [Option.map_map]
  have : (fun x : Int × Int => decide ((entK x).1 = (Sum.inl k : Key))) = fun p => decide (p.1 = k) := by
    funext p
    unfold entK
    simp
  rw [this]
  rfl
theorem val_dt (kvs : List (List Int × Int)) (k : List Int) : valV (kvs.map entT) (ky k) = (lookI kvs k).map V.int := by
  unfold valV lookI
  rw [find_map]
  simp only [Option.map_map]
  have : (fun x : List Int × Int => decide ((entT x).1 = ky k)) = fun p => decide (p.1 = k) := by
    funext p
    unfold entT
    exact decide_eq_decide.mpr ky_inj
  rw [this]
  rfl
theorem put_gen {κ κ' : Type} [DecidableEq κ] [DecidableEq κ'] (f : κ → κ') (inj : ∀ a b, f a = f b ↔ a = b) (kvs : List (κ × Int)) (k : κ) (v : Int) : putK (kvs.map fun p => (f p.1, V.int p.2)) (f k) (V.int v) = (putI kvs k v).map fun p => (f p.1, V.int p.2) := by
  unfold putK putI
  have e : ((kvs.map fun p => (f p.1, V.int p.2)).any fun kv => decide (kv.1 = f k)) = kvs.any fun p => decide (p.1 = k) := by
    rw [List.any_map]
    congr 1
    funext p
    exact decide_eq_decide.mpr (inj _ _)
  rw [e]
  split
  · rw [List.map_map, List.map_map]
    apply List.map_congr_left
    intro p _
    show (if f p.1 = f k then (f p.1, V.int v) else (f p.1, V.int p.2)) = _
    by_cases q : p.1 = k
    · rw [if_pos ((inj _ _).mpr q)]
      show _ = ((f (if p.1 = k then (p.1, v) else p).1, V.int (if p.1 = k then (p.1, v) else p).2))
      rw [if_pos q]
    · rw [if_neg fun z => q ((inj _ _).mp z)]
      show _ = ((f (if p.1 = k then (p.1, v) else p).1, V.int (if p.1 = k then (p.1, v) else p).2))
      rw [if_neg q]
  · rw [List.map_append]; rfl
theorem put_dk (kvs : List (Int × Int)) (k v : Int) : putK (kvs.map entK) (Sum.inl k) (V.int v) = (putI kvs k v).map entK :=
  put_gen (κ := Int) (κ' := Key) (fun k => Sum.inl k) (fun a b => ⟨fun z => Sum.inl.inj z, fun z => by rw [z]⟩) kvs k v
theorem put_dt (kvs : List (List Int × Int)) (k : List Int) (v : Int) : putK (kvs.map entT) (ky k) (V.int v) = (putI kvs k v).map entT :=
  put_gen (κ := List Int) (κ' := List Key) ky (fun a b => ky_inj) kvs k v
theorem putI_len {κ : Type} [DecidableEq κ] (kvs : List (κ × Int)) (k : κ) (v : Int) : (putI kvs k v).length ≤ kvs.length + 1 := by
  unfold putI
  split
  · rw [List.length_map]; omega
  · rw [List.length_append]; simp
/-! ### blocks: a new object D of any kind -/
section
variable {K : PySem.W.Frag} {O : Addr → Prop} {δ δ0 δ1 δ2 : Dl} {σ σ0 : L2.St} {H H0 H1 H2 : Hp} {D : Addr} {vs js : List Nat} {o : HO}
theorem newO_up (hD : H1 D = none) : Same (hid H1 O) (hid (upd H1 D o) fun a => O a ∨ a = D) := fun b x e => by
  obtain ⟨n, e⟩ := hid_some e
  have ne : b ≠ D := ne_of_none e hD
  rw [hid_no (fun z => z.elim n ne), upd_ne ne]; exact e
theorem blk_start (R : Rep K O δ σ H1) (hD : H1 D = none) (hun : unAll δ vs = true) : Rep K (fun a => O a ∨ a = D) δ (wipe σ vs) (upd H1 D o) ∧ ¬ Own δ (wipe σ vs) D ∧ ¬ OwnM δ (wipe σ vs) D := by
  have R1 := rep_wipe vs R
  rw [unAll_wipe hun] at R1
  have nO : ¬ O D := R.fresh hD
  refine ⟨R1.laidO hD, ?_, ?_⟩
  · rintro ⟨i, xs, e1, e2⟩
    obtain ⟨a, us, e3, z, _⟩ := R1.lst i xs e1
    rw [e3] at e2; cases e2; exact nO z
  · rintro ⟨i, xs, e1, e2⟩
    obtain ⟨a, us, e3, z, _⟩ := R1.ex.m i xs e1
    rw [e3] at e2; cases e2; exact nO z
theorem Blk.ownMI (B : Blk O D vs δ0 δ σ H H2) {a : Addr} (h : OwnM δ σ a) : OwnM δ0 σ a := by
  obtain ⟨i, kvs, e1, e2⟩ := h
  have hi : i ∉ vs := fun q => by
    have := List.all_eq_true.mp B.un i q
    rw [e1] at this
    cases this
  exact ⟨i, kvs, B.dct i kvs hi e1, e2⟩
theorem rep_updG (R : Rep K O δ σ H) (hO : O D) (hn : ¬ Own δ σ D) (hm : ¬ OwnM δ σ D) : Rep K O δ σ (upd H D o) := by
  refine ⟨R.len, fun i x e => ?_, fun i xs e => ?_, R.inj, fun a z => ?_, ⟨fun i kvs e => ?_, R.ex.i, fun i ks e => ?_⟩⟩
  · rw [hid_upd hO]; exact R.dat i x e
  · obtain ⟨a, vs, e1, z, e2, d⟩ := R.lst i xs e
    refine ⟨a, vs, e1, z, ?_, by rw [hid_upd hO]; exact d⟩
    rw [upd_ne fun q => hn ⟨i, xs, e, by rw [← q]; exact e1⟩]
    exact e2
  · by_cases q : a = D
    · exact ⟨o, by rw [q, upd_same]⟩
    · rw [upd_ne q]; exact R.occ a z
  · obtain ⟨a, us, e1, z, e2, d⟩ := R.ex.m i kvs e
    refine ⟨a, us, e1, z, ?_, by rw [hid_upd hO]; exact d⟩
    rw [upd_ne fun q => hm ⟨i, kvs, e, by rw [← q]; exact e1⟩]
    exact e2
  · rw [hid_upd hO]; exact R.ex.k i ks e
/-- one turn of a block, up to where its last expression ends -/
theorem blk_turn {x : V} {d : PyData} {b : WB} {P : Dl → Prop} (hjs : ∀ j ∈ js, j ∈ vs) (hO : O D) (hD : ¬ Own δ0 σ0 D) (hσ : wipe σ0 vs = σ0) (hun : unAll δ0 vs = true) (hl0 : δ0.length = σ0.length)
    (R : Rep K O δ σ0 H) (B : Blk O D vs δ0 δ σ0 H0 H) (hy : Yld K (hid H0 O) H x H2 d) (w : b d δ P) {Q : L2.St → Hp → Prop}
    (fin : ∀ δ1 σ2, P δ1 → wipe σ2 vs = σ0 → Rep K O δ1 σ2 H2 → (∀ δ3 H5, Stp O δ1 δ3 σ2 H2 H5 → Rep K O δ3 σ2 H5 → Rep K O (wipeD δ3 vs) σ0 H5 ∧ Blk O D vs δ0 (wipeD δ3 vs) σ0 H0 H5 ∧ H5 D = H D ∧ Same (hid H O) (hid H5 O)) → Q σ2 H2) : liftG K js b x σ0 H2 Q := by
  have item : Same (hid H O) (hid H2 O) ∧ (∀ a, O a → H2 a = H a) ∧ Rep K O δ σ0 H2 ∧ Dp K (hid H2 O) x d := by
    rcases hy with ⟨rfl, dx⟩ | ⟨T, x1, x2, d1, d2, rfl, nT, rfl, rfl, h1, h2⟩
    · exact ⟨Same.refl _, fun _ _ => rfl, R, Dp.up dx B.same⟩
    · refine ⟨hid_new nT, fun a z => ?_, R.laid nT, .tup (xs := [x1, x2]) ?_ ?_⟩
      · obtain ⟨u, e⟩ := R.occ a z
        rw [upd_ne (ne_of_none e nT)]
      · rw [hid_no (R.fresh nT)]; exact upd_same
      · exact .cons (Dp.up (Dp.up h1 B.same) (hid_new nT)) (.cons (Dp.up (Dp.up h2 B.same) (hid_new nT)) .nil)
  obtain ⟨sm, fr, R2, dx⟩ := item
  refine ⟨O, δ, d, _, R2, dx, w, fun δ1 σ2 w1 bd R3 => ?_⟩
  have hw2 : wipe σ2 vs = σ0 := (wipe_eq bd.lσ fun j q => bd.eσ j fun z => q (hjs j z)).trans hσ
  refine fin δ1 σ2 w1 hw2 R3 fun δ3 H5 s R5 => ?_
  have own1 : ∀ a, Own δ1 σ2 a → Own δ0 σ0 a := fun a ⟨j, zs, e1, e2⟩ => by
    have q : j ∉ js := fun z => bd.no j zs z e1
    rw [bd.eδ j q] at e1
    rw [bd.eσ j q] at e2
    exact B.ownI ⟨j, zs, e1, e2⟩
  have R6 := rep_wipe vs R5
  rw [hw2] at R6
  refine ⟨R6, ⟨(B.same.trans sm).trans s.same, fun a oa na no => ?_, fun j q => ?_, fun j y q => ?_, wipeD_un fun v hv => ?_, fun j kvs q z => ?_⟩, ?_, sm.trans s.same⟩
  · rw [s.frame a oa fun z => no (own1 a z), fr a oa, B.frame a oa na no]
  · rw [(wipeD_get δ3 j vs).1 q]
    refine (s.own j).trans ?_
    rw [bd.eδ j fun z => q (hjs j z)]
    exact B.own j q
  · rw [(wipeD_get δ3 j vs).1 q]
    refine (s.dat j y).trans ?_
    rw [bd.eδ j fun z => q (hjs j z)]
    exact B.dat j y q
  · have h1 := List.all_eq_true.mp hun v hv
    have h2 : v < δ0.length := by
      cases e : δ0[v]? with
      | none => rw [e] at h1; cases h1
      | some _ => exact (List.getElem?_eq_some_iff.mp e).1
    rw [R5.len, bd.lσ, ← hl0]
    exact h2
  · rw [(wipeD_get δ3 j vs).1 q] at z
    have z := s.dct j kvs z
    rw [bd.eδ j fun z => q (hjs j z)] at z
    exact B.dct j kvs q z
  · rw [s.frame D hO fun z => hD (own1 D z), fr D hO]
/-- the end: D is open to all -/
theorem blk_end (R0 : Rep K O δ0 σ H) (s1 : Stp O δ0 δ1 σ H H1) (R1 : Rep K O δ1 σ H1) (hD : H1 D = none) (hun : unAll δ1 vs = true)
    (R2 : Rep K (fun a => O a ∨ a = D) δ2 (wipe σ vs) H2) (B : Blk (fun a => O a ∨ a = D) D vs δ1 δ2 (wipe σ vs) (upd H1 D o) H2) : Stp O δ0 δ2 σ H H2 ∧ Rep K O δ2 σ H2 ∧ ¬ O D := by
  have nO : ¬ O D := R1.fresh hD
  obtain ⟨_, n1, n2⟩ := blk_start (o := o) (vs := vs) R1 hD hun
  have nOwn : ¬ Own δ2 (wipe σ vs) D := fun z => n1 (B.ownI z)
  have nOwnM : ¬ OwnM δ2 (wipe σ vs) D := fun z => n2 (B.ownMI z)
  have sub : Same (hid H2 fun a => O a ∨ a = D) (hid H2 O) := hid_sub fun a z => .inl z
  have no1 : ∀ (i : Nat) (s : Sl), i ∈ vs → s ≠ .un → δ1[i]? ≠ some s := fun i s hi ns z => by
    have h1 := List.all_eq_true.mp hun i hi
    rw [z] at h1
    cases s <;> first | exact ns rfl | cases h1
  have no2 : ∀ (i : Nat) (s : Sl), i ∈ vs → s ≠ .un → δ2[i]? ≠ some s := fun i s hi ns z => by
    have h1 := List.all_eq_true.mp B.un i hi
    rw [z] at h1
    cases s <;> first | exact ns rfl | cases h1
  have st : Stp O δ1 δ2 σ H1 H2 := by
    refine ⟨((newO_up hD).trans B.same).trans sub, fun a oa no => ?_, fun i => ?_, fun i x => ?_, fun i kvs z => ?_⟩
    · have ne : a ≠ D := fun z => nO (z ▸ oa)
      rw [B.frame a (.inl oa) ne ?_, upd_ne ne]
      rintro ⟨i, xs, e1, e2⟩
      obtain ⟨e2, _⟩ := wipe_some e2
      exact no ⟨i, xs, e1, e2⟩
    · by_cases q : i ∈ vs
      · exact ⟨fun ⟨xs, z⟩ => absurd z (no2 i _ q (by simp)), fun ⟨xs, z⟩ => absurd z (no1 i _ q (by simp))⟩
      · exact B.own i q
    · by_cases q : i ∈ vs
      · exact ⟨fun z => absurd z (no2 i _ q (by simp)), fun z => absurd z (no1 i _ q (by simp))⟩
      · exact B.dat i x q
    · by_cases q : i ∈ vs
      · exact absurd z (no2 i _ q (by simp))
      · exact B.dct i kvs q z
  have back : ∀ (i : Nat) (s : Sl), s ≠ .un → δ2[i]? = some s → (wipe σ vs)[i]? = σ[i]? := fun i s ns e => wipe_get σ i vs fun q => no2 i s q ns e
  refine ⟨s1.trans st, ⟨by rw [R2.len, wipe_length], fun i x e => ?_, fun i xs e => ?_, fun i j xs ys a e1 e2 e3 e4 => ?_, fun a z => R2.occ a (.inl z), ⟨fun i kvs e => ?_, fun i j ks ls a e1 e2 e3 e4 => ?_, fun i ks e => ?_⟩⟩, nO⟩
  · obtain ⟨v, e1, d⟩ := R2.dat i x e
    rw [back i _ (by simp) e] at e1
    exact ⟨v, e1, Dp.up d sub⟩
  · obtain ⟨a, us, e1, z, e2, d⟩ := R2.lst i xs e
    have z := z.resolve_right fun q => nOwn ⟨i, xs, e, by rw [← q]; exact e1⟩
    rw [back i _ (by simp) e] at e1
    exact ⟨a, us, e1, z, e2, DpAll.up d sub⟩
  · exact R2.inj i j xs ys a e1 e2 ((back i _ (by simp) e1).trans e3) ((back j _ (by simp) e2).trans e4)
  · obtain ⟨a, us, e1, z, e2, d⟩ := R2.ex.m i kvs e
    have z := z.resolve_right fun q => nOwnM ⟨i, kvs, e, by rw [← q]; exact e1⟩
    rw [back i _ (by simp) e] at e1
    exact ⟨a, us, e1, z, e2, KvOk.up sub d⟩
  · exact R2.ex.i i j ks ls a e1 e2 ((back i _ (by simp) e1).trans e3) ((back j _ (by simp) e2).trans e4)
  · obtain ⟨b, e1, e2⟩ := R2.ex.k i ks e
    rw [back i _ (by simp) e] at e1
    exact ⟨b, e1, sub _ _ e2⟩
end
/-! ### {k: v for ..}, ints -/
def wGoD (b : WB) (t : WT) (wk wv : WE) (vs : List Nat) (k : List (Int × Int) → Dl → Prop) : List PyData → List (Int × Int) → Dl → Prop
  | [], acc, δ => k acc δ
  | x :: r, acc, δ => b x δ fun δ1 => t δ1 fun c δ2 => if c = true then wk δ2 fun y δ3 => wv δ3 fun z δ4 => (match y, z with
    | .d (.int i), .d (.int j) => wGoD b t wk wv vs k r (putI acc i j) (wipeD δ4 vs)
    | _, _ => False) else wGoD b t wk wv vs k r acc (wipeD δ2 vs)
def wDc (wi : WI) (b : WB) (t : WT) (wk wv : WE) (vs : List Nat) : WE := fun δ P => wi δ fun ds δ1 => (ds.length ≤ 10000 ∧ unAll δ1 vs = true) ∧ wGoD b t wk wv vs (fun acc δ' => P (.d (dkD acc)) δ') ds [] δ1
section
variable {X : Cx} {tg iter e kx vx : Expr} {wk wv we wo : WE} {wi : WI} {pos p : Pos} {ifs : List Expr} {scope : Scope} {own : List (Str × Nat)} {js : List Nat} {b : WB} {t : WT}
def AtD (K : PySem.W.Frag) (O : Addr → Prop) (D : Addr) (vs : List Nat) (δ0 : Dl) (σ0 : L2.St) (H0 : Hp) (b : WB) (t : WT) (wk wv : WE) (k : List (Int × Int) → Dl → Prop) (ds : List PyData) (i : Nat) (H : Hp) : Prop :=
  ∃ δ acc, Rep K O δ σ0 H ∧ Blk O D vs δ0 δ σ0 H0 H ∧ H D = some (.dK (acc.map entK)) ∧ acc.length ≤ i ∧ wGoD b t wk wv vs k (ds.drop i) acc δ
theorem dc_it {J : It} {n : Nat} {GG : Hp → Prop} {Y : Nat → Hp → V → Hp → Prop} {g : TG} {tt : TT} {tk tv : TE} {vs : List Nat} {σ : L2.St} {H1 : Hp} {D : Addr} {Qd : Hp → Prop} (wk : Walk J n GG Y) (Pv : Nat → Hp → Prop) (h0 : Pv 0 (upd H1 D (.dK []))) (hl : ∀ i H, i ≤ n → Pv i H → GG H)
    (hs : ∀ i x H H', i < n → Pv i H → Y i H x H' → g x (wipe σ vs) H' fun σ2 H2 => wipe σ2 vs = wipe σ vs ∧ tt σ2 H2 fun c H3 => if c = true then tk σ2 H3 fun y H4 => tv σ2 H4 fun z H5 => ∃ kvs k, y = kV k ∧ H5 D = some (.dK kvs) ∧ kvs.length < sizeLine ∧ Pv (i + 1) (upd H5 D (.dK (putK kvs k z))) else Pv (i + 1) H3)
    (hd : ∀ H, Pv n H → Qd H) : ∃ W : Nat → Nat → Hp → Prop, (∃ m, W 0 m (upd H1 D (.dK []))) ∧ ∀ i m H, W i m H → (J.stop i H ∧ Qd H) ∨ (J.go i H ∧ ∃ Nx : Hp → Prop, (∀ H', Nx H' → ∃ m', m' < m ∧ W (i + 1) m' H') ∧ ∀ x H', J.yld i H x H' → g x (wipe σ vs) H' fun σ2 H2 => wipe σ2 vs = wipe σ vs ∧ tt σ2 H2 fun c H3 =>
      if c = true then tk σ2 H3 fun y H4 => tv σ2 H4 fun z H5 => ∃ kvs k, y = kV k ∧ H5 D = some (.dK kvs) ∧ kvs.length < sizeLine ∧ Nx (upd H5 D (.dK (putK kvs k z))) else Nx H3) := by
  refine ⟨fun i m H => m + i = n ∧ Pv i H, ⟨n, by omega, h0⟩, fun i m H ⟨hm, hp⟩ => ?_⟩
  by_cases q : i < n
  · exact .inr ⟨wk.goes i H q (hl i H (by omega) hp), Pv (i + 1), fun H' hp' => ⟨m - 1, by omega, by omega, hp'⟩, fun x H' y => hs i x H H' q hp (wk.yields i H x H' q (hl i H (by omega) hp) y)⟩
  · have e : i = n := by omega
    subst e
    exact .inl ⟨wk.stops H (hl i H (Nat.le_refl _) hp), hd H hp⟩
theorem lift_dc {K : PySem.W.Frag} {vs : List Nat} (hjs : ∀ j ∈ js, j ∈ vs) {σ : L2.St} {H : Hp} {Q : VK} (q : lift K (wDc wi b t wk wv vs) σ H Q) : tDc (liftI K wi) (liftG K js b) (liftT K t) (lift K wk) (lift K wv) vs σ H Q := by
  obtain ⟨O, δ, P, R0, w, f⟩ := q
  refine ⟨O, δ, _, R0, w, fun ds δ1 H1 J w1 s1 R1 walk D hD => ?_⟩
  obtain ⟨⟨hz, hun⟩, w1⟩ := w1
  obtain ⟨GG, Y, walk, hG, hY⟩ := walk
  obtain ⟨R2, nD, nM⟩ := blk_start (o := .dK []) (vs := vs) R1 hD hun
  refine dc_it walk (AtD K (fun a => O a ∨ a = D) D vs δ1 (wipe σ vs) (upd H1 D (.dK [])) b t wk wv (fun acc δ' => P (.d (dkD acc)) δ') ds) ?_ ?_ ?_ ?_
  · exact ⟨δ1, [], R2, ⟨Same.refl _, fun _ _ _ _ => rfl, fun _ _ => Iff.rfl, fun _ _ _ => Iff.rfl, hun, fun _ _ _ z => z⟩, upd_same, Nat.le_refl _, w1⟩
  · rintro i H2 _ ⟨δ2, acc, R3, B, _⟩
    exact hG H2 (((newO_up hD).trans B.same).trans hid_le)
  · rintro i x H2 H3 hi2 ⟨δ2, acc, R3, B, eD, lA, w2⟩ hy
    have e : ds[i]? = some ds[i] := List.getElem?_eq_getElem hi2
    have yl := hY i H2 x H3 _ e (((newO_up hD).trans B.same).trans hid_le) hy
    have yl2 : Yld K (hid (upd H1 D (.dK [])) fun a => O a ∨ a = D) H2 x H3 ds[i] := by
      rcases yl with ⟨e1, d⟩ | ⟨T, x1, x2, d1, d2, e1, e2, e3, e4, h1, h2⟩
      · exact .inl ⟨e1, Dp.up d (newO_up hD)⟩
      · exact .inr ⟨T, x1, x2, d1, d2, e1, e2, e3, e4, Dp.up h1 (newO_up hD), Dp.up h2 (newO_up hD)⟩
    rw [List.drop_eq_getElem_cons hi2] at w2
    refine blk_turn (js := js) hjs (.inr rfl) nD wipe_wipe hun R2.len R3 B yl2 w2 fun δ3 σ2 w3 hw R4 fin => ⟨hw, _, δ3, _, R4, w3, fun c δ4 H4 w4 s4 R5 => ?_⟩
    cases c with
    | false =>
      obtain ⟨R6, B6, e6, _⟩ := fin δ4 H4 s4 R5
      exact ⟨_, acc, R6, B6, e6.trans eD, by omega, w4⟩
    | true =>
      refine ⟨_, δ4, _, R5, w4, fun y δ5 vy H5 w5 s5 R6 k5 => ?_⟩
      refine ⟨_, δ5, _, R6, w5, fun z δ6 vz H6 w6 s6 R7 k6 => ?_⟩
      cases y <;> first | exact False.elim w6 | skip
      rename_i dy
      cases z <;> first | (cases dy <;> exact False.elim w6) | skip
      rename_i dz
      cases dy <;> first | exact False.elim w6 | skip
      cases dz <;> first | exact False.elim w6 | skip
      rename_i k v
      have k5 : Dp K (hid H5 fun a => O a ∨ a = D) vy (.int k) := k5
      have k6 : Dp K (hid H6 fun a => O a ∨ a = D) vz (.int v) := k6
      cases k5
      cases k6
      obtain ⟨R8, B8, e8, _⟩ := fin δ6 H6 ((s4.trans s5).trans s6) R7
      have n8 : ¬ Own (wipeD δ6 vs) (wipe σ vs) D := fun z => nD (B8.ownI z)
      have m8 : ¬ OwnM (wipeD δ6 vs) (wipe σ vs) D := fun z => nM (B8.ownMI z)
      refine ⟨acc.map entK, Sum.inl k, rfl, e8.trans eD, by rw [List.length_map]; exact Nat.lt_of_le_of_lt (Nat.le_trans lA (Nat.le_trans (Nat.le_of_lt hi2) hz)) (by rw [sizeLine_eq]; decide), ?_⟩
      rw [put_dk]
      refine ⟨_, putI acc k v, rep_updG R8 (.inr rfl) n8 m8, ⟨?_, fun a oa na no => ?_, B8.own, B8.dat, B8.un, B8.dct⟩, upd_same, ?_, w6⟩
      · rw [hid_upd (H := H6) (.inr rfl)]; exact B8.same
      · rw [upd_ne na]; exact B8.frame a oa na no
      · have := putI_len acc k v; omega
  · rintro H2 ⟨δ2, acc, R3, B, eD, _, w2⟩
    rw [List.drop_length] at w2
    obtain ⟨s3, R4, nO⟩ := blk_end R0 s1 R1 hD hun R3 B
    refine f _ _ _ _ w2 s3 R4 (.dk ?_)
    rw [hid_no nO]; exact eD
theorem de_dc (hc : X.calm = true) (hN : X.N.Nodup) (hi : DI X tg iter wi) (ok : BlkOk X.N X.env.scope scope own)
    (hg : ∀ (s : Shared) (H : Hp) (C : Addr) (cl : List (Str × Addr)) (fp : List Addr), DG (X.blk s H scope (compEnvC scope cl C X.env) fp) tg js b) (ht : ∀ (s : Shared) (H : Hp) (C : Addr) (cl : List (Str × Addr)) (fp : List Addr), DTs (X.blk s H scope (compEnvC scope cl C X.env) fp) ifs t)
    (hk : ∀ (s : Shared) (H : Hp) (C : Addr) (cl : List (Str × Addr)) (fp : List Addr), DE (X.blk s H scope (compEnvC scope cl C X.env) fp) kx wk) (hv : ∀ (s : Shared) (H : Hp) (C : Addr) (cl : List (Str × Addr)) (fp : List Addr), DE (X.blk s H scope (compEnvC scope cl C X.env) fp) vx wv)
    (hjs : ∀ j ∈ js, j ∈ own.map (·.2) := by decide) (hs : ∀ x, foldedSetIterable iter X.env x = pure x := by intro _; rfl) : DE X (.DictComp kx vx [⟨tg, iter, ifs, 0⟩] scope pos) (wDc wi b t wk wv (own.map (·.2))) :=
  pe_weak (pe_dc (wi := liftI X.K wi) (g := liftG X.K js b) (tt := liftT X.K t) (tk := lift X.K wk) (tv := lift X.K wv) hc hN hi ok hg ht hk hv hs) fun σ H Q q => lift_dc hjs q
/-- d.get(k), k an int -/
def wGet1 (wo we : WE) : WE := fun δ P => wo δ fun r δ1 => ∃ kvs, r = .d (dkD kvs) ∧ we δ1 fun s δ2 => ∃ k, s = .d (.int k) ∧ P (.d (optD (lookI kvs k))) δ2
theorem dp_opt {K : PySem.W.Frag} {G : Hp} : ∀ o : Option Int, Dp K G ((o.map V.int).getD .non) (optD o)
  | none => .non
  | some v => .int v
theorem de_get1 {apos cpos : Pos} {o : Expr} (hu : X.A.units + 64 < cLine) (ho : DE X o wo) (he : DE X e we) (h1 : attributeBase o "get" X.env (eval o X.env) = eval o X.env := by rfl)
    (h2 : ((backTo cpos (starEach [e] X.env)).all (fun x => !x.1) && (backToKw cpos (keywordEach [] X.env)).all (fun x => x.1.isSome) && decide (([e] : List Expr).length + ([] : List Keyword).length + (if ([] : List Keyword).isEmpty then 0 else 1) < 30)) = true := by rfl)
    (h3 : (apos.endLine == cpos.line) = true := by rfl) (h4 : backTo cpos (starEach [e] X.env) = [(false, eval e X.env)] := by rfl) : DE X (.Call (.Attribute o "get" apos) [e] [] cpos) (wGet1 wo we) := by
  refine pe_weak (pe_dget1 (by omega) ho he ⟨h1, h2, h3, h4⟩) fun σ H Q ⟨O, δ, P, R0, w, f⟩ => ?_
  refine ⟨O, δ, _, R0, w, fun r δ1 v H1 w1 s1 R1 k1 => ?_⟩
  obtain ⟨kvs, rfl, w1⟩ := w1
  obtain ⟨a, rfl, ea⟩ := dp_dk k1
  refine ⟨a, rfl, .inl ⟨_, .inl (hid_le _ _ ea)⟩, O, δ1, _, R1, w1, fun s δ2 u H2 w2 s2 R2 k2 => ?_⟩
  obtain ⟨k, rfl, w2⟩ := w2
  have k2 : Dp X.K (hid H2 O) u (.int k) := k2
  cases k2
  refine ⟨_, DGet.k (k := Sum.inl k) (hid_le _ _ (s2.same _ _ ea)), ?_⟩
  rw [val_dk]
  exact f _ _ _ _ w2 (s1.trans s2) R2 (dp_opt _)
/-- a tuple of ints as a key -/
theorem dp_key {K : PySem.W.Frag} {G : Hp} {u : V} {ks : List Int} (h : Dp K G u (.tuple (ks.map PyData.int))) : ∃ b, u = .ref b ∧ G b = some (.tup ((ky ks).map kV)) := by
  cases h with
  | tup h1 h2 =>
    have := ints_dp h2 (ints_map ks)
    refine ⟨_, rfl, ?_⟩
    rw [h1, this]
    unfold ky
    rw [List.map_map]
    rfl
/-- d.get((..), x) -/
def wGet2 (wo we wx : WE) : WE := fun δ P => wo δ fun r δ1 => ∃ kvs, r = .d (dtD kvs) ∧ we δ1 fun s δ2 => ∃ ks : List Int, s = .d (.tuple (ks.map PyData.int)) ∧ wx δ2 fun u δ3 => ∃ x, u = .d x ∧ P (.d (match lookI kvs ks with | some v => .int v | none => x)) δ3
theorem de_get2 {apos cpos : Pos} {o g : Expr} {wx : WE} (hu : X.A.units + 64 < cLine) (ho : DE X o wo) (he : DE X e we) (hx : DE X g wx) (h1 : attributeBase o "get" X.env (eval o X.env) = eval o X.env := by rfl)
    (h2 : ((backTo cpos (starEach [e, g] X.env)).all (fun x => !x.1) && (backToKw cpos (keywordEach [] X.env)).all (fun x => x.1.isSome) && decide (([e, g] : List Expr).length + ([] : List Keyword).length + (if ([] : List Keyword).isEmpty then 0 else 1) < 30)) = true := by rfl)
    (h3 : (apos.endLine == cpos.line) = true := by rfl) (h4 : backTo cpos (starEach [e, g] X.env) = [(false, eval e X.env), (false, eval g X.env)] := by rfl) : DE X (.Call (.Attribute o "get" apos) [e, g] [] cpos) (wGet2 wo we wx) := by
  refine pe_weak (pe_dget2 (by omega) ho he hx ⟨h1, h2, h3, h4⟩) fun σ H Q ⟨O, δ, P, R0, w, f⟩ => ?_
  refine ⟨O, δ, _, R0, w, fun r δ1 v H1 w1 s1 R1 k1 => ?_⟩
  obtain ⟨kvs, rfl, w1⟩ := w1
  obtain ⟨a, rfl, ea⟩ := dp_dt k1
  refine ⟨a, rfl, .inr ⟨_, .inl (hid_le _ _ ea)⟩, O, δ1, _, R1, w1, fun s δ2 u H2 w2 s2 R2 k2 => ?_⟩
  obtain ⟨ks, rfl, w2⟩ := w2
  obtain ⟨b, rfl, eb⟩ := dp_key k2
  refine ⟨O, δ2, _, R2, w2, fun s δ3 z H3 w3 s3 R3 k3 => ?_⟩
  obtain ⟨x, rfl, w3⟩ := w3
  refine ⟨_, DGet.t (hid_le _ _ (s3.same _ _ (s2.same _ _ ea))) (hid_le _ _ (s3.same _ _ eb)), ?_⟩
  rw [val_dt]
  refine f _ _ _ _ w3 ((s1.trans s2).trans s3) R3 ?_
  cases lookI kvs ks with
  | none => exact k3
  | some v => exact .int v
/-- d[(..)], there -/
def wGetT (wo we : WE) : WE := fun δ P => wo δ fun r δ1 => we δ1 fun s δ2 => ∃ (kvs : List (List Int × Int)) (ks : List Int) (v : Int), r = .d (dtD kvs) ∧ s = .d (.tuple (ks.map PyData.int)) ∧ lookI kvs ks = some v ∧ P (.d (.int v)) δ2
theorem de_getT {o : Expr} (hu : X.A.units + 64 < cLine) (ho : DE X o wo) (he : DE X e we) (hs : NoSl e := by exact fun _ _ => rfl) : DE X (.Subscript o e pos) (wGetT wo we) := by
  refine pe_weak (pe_dget (by omega) ho he hs) fun σ H Q ⟨O, δ, P, R0, w, f⟩ => ?_
  refine ⟨O, δ, _, R0, w, fun r δ1 v H1 w1 s1 R1 k1 => ?_⟩
  refine ⟨O, δ1, _, R1, w1, fun s δ2 u H2 w2 s2 R2 k2 => ?_⟩
  obtain ⟨kvs, ks, x, rfl, rfl, ex, w2⟩ := w2
  obtain ⟨a, rfl, ea⟩ := dp_dt k1
  obtain ⟨b, rfl, eb⟩ := dp_key k2
  refine ⟨a, .int x, rfl, ?_, f _ _ _ _ w2 (s1.trans s2) R2 (.int x)⟩
  have := DGet.t (hid_le _ _ (s2.same _ _ ea)) (hid_le _ _ eb)
  rw [val_dt, ex] at this
  exact this
end
end Dw

/-! what may be raised: told by the names of the text's own classes -/
namespace Dw
open PySem PySem.Spec PyProof.Rows L2
abbrev PXn := Str → Prop
abbrev WEX := Dl → (Rv → Dl → Prop) → PXn → Prop
abbrev WAX := Dl → (List Rv → Dl → Prop) → PXn → Prop
abbrev WSX := DEnds → PXn → Dl → Prop
/-- the way to where something is raised -/
structure XS (O : Addr → Prop) (δ : Dl) (σ : L2.St) (H H' : Hp) : Prop where
  same : Same (hid H O) (hid H' O)
  frame : ∀ a, O a → ¬ Own δ σ a → ¬ OwnM δ σ a → H' a = H a
section
variable {K : PySem.W.Frag} {O O1 : Addr → Prop} {δ δ1 : Dl} {σ σ1 : L2.St} {H H1 H2 : Hp}
theorem XS.refl : XS O δ σ H H := ⟨Same.refl _, fun _ _ _ _ => rfl⟩
theorem XS.after (R : Rep K O δ σ H) (R1 : Rep K O1 δ1 σ1 H1) (a : Tr O O1 δ δ1 σ σ1 H H1) (b : XS O1 δ1 σ1 H1 H2) : XS O δ σ H H2 := by
  refine ⟨(a.same.trans b.same).trans (hid_sub a.sub), fun c oc n m => ?_⟩
  have occ : H c ≠ none := fun z => by
    obtain ⟨o, e⟩ := R.occ c oc
    rw [z] at e; cases e
  rw [b.frame c (a.sub c oc) (fun z => (a.own c z).elim n occ) (fun z => (a.ownM c z).elim m occ)]
  exact a.frame c oc n m
end
/-- what the context takes, by names -/
def ObX (mg : Str → Option Value) (W : WX) (O : Addr → Prop) (δ : Dl) (σ σw : L2.St) (H : Hp) (PX : PXn) : Prop := ∀ n cls H', PX n → mg n = some cls → XS O δ σ H H' → W cls none σw H'
def liftX (K : PySem.W.Frag) (mg : Str → Option Value) (W : WX) (w : WEX) : TE := fun σ H Q => ∃ O δ P PX, Rep K O δ σ H ∧ w δ P PX ∧ (∀ r δ' v H', P r δ' → Stp O δ δ' σ H H' → Rep K O δ' σ H' → RvOk K O σ δ' H H' v r → Q v H') ∧ ObX mg W O δ σ σ H PX
def liftAX (K : PySem.W.Frag) (mg : Str → Option Value) (W : WX) (w : WAX) : TA := fun σ H Q => ∃ O δ P PX, Rep K O δ σ H ∧ w δ P PX ∧ (∀ rs δ' vs H', P rs δ' → Stp O δ δ' σ H H' → Rep K O δ' σ H' → RvsOk K O σ δ' H H' vs rs → Q vs H') ∧ ObX mg W O δ σ σ H PX
def DEX (X : Cx) (W : WX) (e : Expr) (w : WEX) : Prop := PE X e (liftX X.K X.mg W w)
def DAX (X : Cx) (W : WX) (es : List Expr) (w : WAX) : Prop := PA X es (liftAX X.K X.mg W w)
theorem ObX.after {K : PySem.W.Frag} {mg : Str → Option Value} {W : WX} {O : Addr → Prop} {δ δ1 : Dl} {σ σw : L2.St} {H H1 : Hp} {PX : PXn} (b : ObX mg W O δ σ σw H PX) (R : Rep K O δ σ H) (R1 : Rep K O δ1 σ H1) (s : Stp O δ δ1 σ H H1) : ObX mg W O δ1 σ σw H1 PX :=
  fun n cls H' p m x => b n cls H' p m (XS.after R R1 s.tr x)
section
variable {X : Cx} {W : WX} {e : Expr} {es : List Expr} {w we : WE} {wx : WEX} {ua : WA} {ux : WAX} {pos p : Pos} {x : Str}
def wPu (w : WE) : WEX := fun δ P _ => w δ P
def uPu (u : WA) : WAX := fun δ P _ => u δ P
theorem dx_pure (h : DE X e we) : DEX X W e (wPu we) := pe_weak h fun σ H Q ⟨O, δ, P, PX, R, w, f, _⟩ => ⟨O, δ, P, R, w, f⟩
theorem dax_pure (h : DA X es ua) : DAX X W es (uPu ua) := pa_weak h fun σ H Q ⟨O, δ, P, PX, R, w, f, _⟩ => ⟨O, δ, P, R, w, f⟩
def uConsX (w : WEX) (u : WAX) : WAX := fun δ P PX => w δ (fun r δ1 => u δ1 (fun rs δ2 => P (r :: rs) δ2) PX) PX
theorem dax_cons (h : DEX X W e wx) (hr : DAX X W es ux) (hs : starEach (e :: es) X.env = (false, eval e X.env) :: starEach es X.env := by rfl) : DAX X W (e :: es) (uConsX wx ux) := by
  refine pa_weak (pa_cons h hr hs) fun σ H Q ⟨O, δ, P, PX, R0, w, f, ob⟩ => ?_
  refine ⟨O, δ, _, PX, R0, w, fun r1 δ1 v1 H1 w1 s1 R1 k1 => ?_, ob⟩
  refine ⟨O, δ1, _, PX, R1, w1, fun rs δ2 vs H2 w2 s2 R2 k2 => ?_, ob.after R0 R1 s1⟩
  exact f _ _ _ _ w2 (s1.trans s2) R2 ⟨⟨δ1, H1, k1, s2.same⟩, RvsOk.back R0 R1 s1 k2⟩
/-- a def that may raise -/
def spX (K : PySem.W.Frag) (mg : Str → Option Value) (S : WEX) : Sp := fun vs H Q E => liftX K mg (fun cls d _ H' => E cls d H') S (vs.map some) H Q
theorem runGS {pins : List (Addr × Obj)} {CX : CXT} {k : Nat} {f : Addr} {fd : FuncData} {ps : List Str} {sp : Sp} {E : XK} {σ : L2.St} {G : Hp} {s : Shared} {Q : VK} {us : List Value} {ys : List V} (F : FnG X.prog X.w X.K X.mg X.base CX k f fd ps sp) (g0 : X.A.guards = some []) (room : Room k X.A) (hb : Binds X.K fd ps []) (hx : PassesAt CX X σ E)
    (I : Inv X pins σ G s) (r : Vals ys us) (q : sp ys G Q E) : wpAny (model X.prog X.w) X.A (call (.ref f) us) (EP X pins σ Q) X.xe s := by
  have hl : (us ++ []).length = ps.length := by rw [List.append_nil, ← r.length]; exact F.len _ _ _ _ q
  have bt := hb s us I.kIn hl
  rw [List.append_nil] at bt
  refine wpAny_call (codeAny_mono (F.run X.A X.stack s G ⟨us, []⟩ us ys Q E g0 room I.env0 bt r q) fun res s' hq => ?_)
  cases res with
  | error er => exact hx pins G s er s' I hq
  | ok fl => cases fl <;> first | exact I.after hq | exact False.elim hq
theorem pe_callGS {CX : CXT} {k : Nat} {f : Addr} {fd : FuncData} {ps : List Str} {sp : Sp} {E : L2.St → XK} {t : TA} (F : FnG X.prog X.w X.K X.mg X.base CX k f fd ps sp) (g0 : X.A.guards = some []) (room : Room k X.A) (hg : Gl X x) (hm : X.mg x = some (.ref f)) (hk : PySem.W.keepIn X.K (.ref f) = true) (hb : Binds X.K fd ps []) (hx : ∀ σ, PassesAt CX X σ (E σ))
    (ha : PA X (e :: es) t) (hdb : (x == ("__debug__" : Str)) = false := by decide) (he : starEach (e :: es) X.env = (false, eval e X.env) :: starEach es X.env := by rfl) (hpl : (backTo pos (starEach es X.env)).any (·.1) = false := by rfl) :
    PE X (.Call (.Name x p) (e :: es) [] pos) (fun σ G Q => t σ G fun ys G1 => sp ys G1 Q (E σ)) := by
  refine ⟨fun pins s σ G Q I q => wpAny_Call_Name_kw (ld_glob I hg hm ?_ hdb)⟩
  exact PySem.W.callWith_K (h₀ := X.base) I.ok.mod.kin hk (thn (ha.run pos pins s σ G _ I q) fun us s1 ⟨ys, G1, I1, r, q1⟩ => ⟨I1.kIn, runGS F g0 room hb (hx σ) I1 r q1⟩) he hpl
structure FnX (P : Program) (w : World) (K : PySem.W.Frag) (mg : Str → Option Value) (base : Heap) (k : Nat) (x : Str) (S : WEX) : Prop where
  ex : ∃ (a : Addr) (fd : FuncData) (ps : List Str), mg x = some (.ref a) ∧ PySem.W.keepIn K (.ref a) = true ∧ Binds K fd ps [] ∧ FnG P w K mg base (L2.CX P w) k a fd ps (spX K mg S)
/-- after a call with data alone: as before, the result apart -/
theorem call_back {K : PySem.W.Frag} {O : Addr → Prop} {δ δ1 δ' : Dl} {σ : L2.St} {H H1 H' : Hp} {rs : List Rv} {vs : List V} {v : V} {r : Rv} {P : Rv → Dl → Prop} {Q : VK} (R0 : Rep K O δ σ H) (s1 : Stp O δ δ1 σ H H1) (R1 : Rep K O δ1 σ H1)
    (g : ∀ r δ' v H', P r δ' → Stp O δ δ' σ H H' → Rep K O δ' σ H' → RvOk K O σ δ' H H' v r → Q v H') (w2 : match r with | .b _ _ => False | _ => P r δ1)
    (s2 : Stp O (rs.map fun r => Sl.d r.as) δ' (vs.map some) H1 H') (k2 : RvOk K O (vs.map some) δ' H1 H' v r) : Q v H' := by
  have fr : ∀ a, O a → H' a = H1 a := fun a z => s2.frame a z (by
    have := no_own (ds := rs.map Rv.as) (σ := vs.map some) (a := a)
    rw [List.map_map] at this
    exact this)
  have st : Stp O δ1 δ1 σ H1 H' := ⟨s2.same, fun a z _ => fr a z, fun _ => Iff.rfl, fun _ _ => Iff.rfl, fun _ _ z => z⟩
  cases r with
  | b i xs => exact w2.elim
  | d x => exact g _ _ _ _ w2 (s1.trans st) (R1.mv s2.same fr) k2
  | l xs =>
    obtain ⟨p, us, e1, n, e, ha, hr⟩ := k2
    exact g _ _ _ _ w2 (s1.trans st) (R1.mv s2.same fr) (RvOk.back R0 R1 s1 ⟨p, us, e1, n, e, ha, R1.mvO (fun a z => .inl z) (same_hide s2.same n) fr hr.occ⟩)
theorem no_ownM {ds : List PyData} {σ : L2.St} {a : Addr} : ¬ OwnM (ds.map Sl.d) σ a := by
  rintro ⟨i, xs, e, _⟩
  rw [List.getElem?_map] at e
  cases q : ds[i]? with
  | none => rw [q] at e; cases e
  | some d => rw [q] at e; cases e
def wCallX (S : WEX) (u : WAX) : WEX := fun δ P PX => u δ (fun rs δ1 => rs.all noB = true ∧ S (rs.map fun r => .d r.as) (fun r _ => (match r with | .b _ _ => False | _ => P r δ1)) PX) PX
theorem dx_call {k : Nat} {S : WEX} (tk : Takes X W) (F : FnX X.prog X.w X.K X.mg X.base k x S) (g0 : X.A.guards = some []) (room : Room k X.A) (hg : Gl X x) (ha : DAX X W (e :: es) ux)
    (hdb : (x == ("__debug__" : Str)) = false := by decide) (he : starEach (e :: es) X.env = (false, eval e X.env) :: starEach es X.env := by rfl) (hpl : (backTo pos (starEach es X.env)).any (·.1) = false := by rfl) : DEX X W (.Call (.Name x p) (e :: es) [] pos) (wCallX S ux) := by
  obtain ⟨f, fd, ps, hm, hk, hb, h4⟩ := F.ex
  refine pe_weak (pe_callGS (E := fun σ cls d H => W cls d σ H) h4 g0 room hg hm hk hb (fun σ => passAt tk σ) ha hdb he hpl) fun σ H Q ⟨O, δ, P, PX, R0, w, g, ob⟩ => ?_
  refine ⟨O, δ, _, PX, R0, w, fun rs δ1 vs H1 w1 s1 R1 k1 => ?_, ob⟩
  obtain ⟨w0, w1⟩ := w1
  have hR := rep_args R1 (RvsOk.dp R0 R1 k1 w0)
  rw [List.map_map] at hR
  refine ⟨O, _, _, PX, hR, w1, fun r δ' v H' w2 s2 R2 k2 => call_back R0 s1 R1 g w2 s2 k2, fun n cls H' pn mn xs => ob n cls H' pn mn (XS.after R0 R1 s1.tr ⟨xs.same, fun a oa _ _ => xs.frame a oa ?_ ?_⟩)⟩
  · have := no_own (ds := rs.map Rv.as) (σ := vs.map some) (a := a)
    rw [List.map_map] at this
    exact this
  · have := no_ownM (ds := rs.map Rv.as) (σ := vs.map some) (a := a)
    rw [List.map_map] at this
    exact this
/-- a def that never raises, what it is given may -/
def wCallP (S : WE) (u : WAX) : WEX := fun δ P PX => u δ (fun rs δ1 => rs.all noB = true ∧ S (rs.map fun r => .d r.as) fun r _ => (match r with | .b _ _ => False | _ => P r δ1)) PX
theorem dx_callP {k : Nat} {S : WE} (F : Fn X.prog X.w X.K X.mg X.base k x S) (g0 : X.A.guards = some []) (room : Room k X.A) (hg : Gl X x) (ha : DAX X W (e :: es) ux)
    (hdb : (x == ("__debug__" : Str)) = false := by decide) (he : starEach (e :: es) X.env = (false, eval e X.env) :: starEach es X.env := by rfl) (hpl : (backTo pos (starEach es X.env)).any (·.1) = false := by rfl) : DEX X W (.Call (.Name x p) (e :: es) [] pos) (wCallP S ux) := by
  obtain ⟨f, fd, ps, hm, hk, hb, h4⟩ := F.ex
  refine pe_weak (pe_callG h4 g0 room hg hm hk hb (pass0 (X := X)) ha hdb he hpl) fun σ H Q ⟨O, δ, P, PX, R0, w, g, ob⟩ => ?_
  refine ⟨O, δ, _, PX, R0, w, fun rs δ1 vs H1 w1 s1 R1 k1 => ?_, ob⟩
  obtain ⟨w0, w1⟩ := w1
  have hR := rep_args R1 (RvsOk.dp R0 R1 k1 w0)
  rw [List.map_map] at hR
  exact ⟨O, _, _, hR, w1, fun r δ' v H' w2 s2 R2 k2 => call_back R0 s1 R1 g w2 s2 k2⟩
end
/-! ### statements -/
section
variable {X : Cx} {E : XK} {st : Stmt} {rest body orelse : List Stmt} {w w' : WS} {wx wx' : WSX} {we : WE} {ex : WEX} {t : WT} {e tg c : Expr} {pos pos' p : Pos} {b : WB} {js : List Nat} {i : Nat} {x : Str} {f : Unit}
abbrev WofE (E : XK) : WX := fun cls d _ H => E cls d H
def liftSX (K : PySem.W.Frag) (mg : Str → Option Value) (E : XK) (w : WSX) : TS := fun D σ H => ∃ O δ P PX, Rep K O δ σ H ∧ w P PX δ ∧ EOk K O δ σ H P D ∧ ObX mg (WofE E) O δ σ σ H PX
def DSX (X : Cx) (E : XK) (s : Stmt) (w : WSX) : Prop := PS X s (liftSX X.K X.mg E w)
def DSsX (X : Cx) (E : XK) (s : List Stmt) (w : WSX) : Prop := PSs X s (liftSX X.K X.mg E w)
theorem ObX.afterT {K : PySem.W.Frag} {mg : Str → Option Value} {O O1 : Addr → Prop} {δ δ1 : Dl} {σ σ1 : L2.St} {H H1 : Hp} {PX : PXn} (b : ObX mg (WofE E) O δ σ σ H PX) (R : Rep K O δ σ H) (R1 : Rep K O1 δ1 σ1 H1) (s : Tr O O1 δ δ1 σ σ1 H H1) : ObX mg (WofE E) O1 δ1 σ1 σ1 H1 PX :=
  fun n cls H' p m x => b n cls H' p m (XS.after R R1 s x)
def sPu (w : WS) : WSX := fun P _ δ => w P δ
def wThenX (w w' : WSX) : WSX := fun P PX δ => w { P with nx := fun δ1 => w' P PX δ1 } PX δ
theorem dsx_pure (h : DS X st w) : DSX X E st (sPu w) := ps_weak h fun D σ H ⟨O, δ, P, PX, R, w, f, _⟩ => ⟨O, δ, P, R, w, f⟩
theorem dssx_pure (h : DSs X rest w) : DSsX X E rest (sPu w) := pss_weak h fun D σ H ⟨O, δ, P, PX, R, w, f, _⟩ => ⟨O, δ, P, R, w, f⟩
theorem dsx_one (h : DSX X E st wx) : DSsX X E [st] wx := pss_one h
theorem dsx_cons (h : DSX X E st wx) (h2 : DSsX X E rest wx') : DSsX X E (st :: rest) (wThenX wx wx') := by
  refine pss_weak (pss_cons h h2) fun D σ H ⟨O, δ, P, PX, R, w, En, ob⟩ => ?_
  exact ⟨O, δ, _, PX, R, w, ⟨fun O' δ' σ' H' p t R' => ⟨O', δ', P, PX, R', p, En.after R R' t, ob.afterT R R' t⟩, En.rt, En.bk, En.ct⟩, ob⟩
def wIfX (t : WT) (w w' : WSX) : WSX := fun P PX δ => t δ fun c δ1 => if c = true then w P PX δ1 else w' P PX δ1
theorem dsx_if (hc : DT X c t) (h : DSsX X E body wx) (h2 : DSsX X E orelse wx') : DSX X E (.If c body orelse pos) (wIfX t wx wx') := by
  refine ps_weak (ps_if hc h h2) fun D σ H ⟨O, δ, P, PX, R, w, En, ob⟩ => ?_
  refine ⟨O, δ, _, R, w, fun k δ1 H1 w1 s1 R1 => ?_⟩
  cases k with
  | true => exact ⟨O, δ1, P, PX, R1, w1, En.after R R1 s1.tr, ob.afterT R R1 s1.tr⟩
  | false => exact ⟨O, δ1, P, PX, R1, w1, En.after R R1 s1.tr, ob.afterT R R1 s1.tr⟩
def wRetX (w : WEX) : WSX := fun P PX δ => w δ (fun r δ1 => P.rt r δ1) PX
theorem dsx_ret (h : DEX X (WofE E) e ex) : DSX X E (.Return (some e) pos) (wRetX ex) := by
  refine ps_weak (ps_ret h) fun D σ H ⟨O, δ, P, PX, R, w, En, ob⟩ => ?_
  exact ⟨O, δ, _, PX, R, w, fun r δ1 v H1 w1 s1 R1 k1 => En.rt _ _ _ _ _ _ w1 s1.tr R1 k1, ob⟩
def wDropX (w : WEX) : WSX := fun P PX δ => w δ (fun _ δ1 => P.nx δ1) PX
theorem dsx_expr (h : DEX X (WofE E) e ex) (hs : swapsWith e none pos.line X.env = pure false := by rfl) : DSX X E (.Expr e pos) (wDropX ex) := by
  refine ps_weak (ps_expr h hs) fun D σ H ⟨O, δ, P, PX, R, w, En, ob⟩ => ?_
  exact ⟨O, δ, _, PX, R, w, fun r δ1 v H1 w1 s1 R1 k1 => En.nx _ _ _ _ w1 s1.tr R1, ob⟩
def wSetX (i : Nat) (w : WEX) : WSX := fun P PX δ => w δ (fun r δ1 => match putR δ1 i r with
  | some δ2 => P.nx δ2
  | none => False) PX
theorem dsx_set (i : Nat) (hN : X.N.Nodup) (h : DEX X (WofE E) e ex) (h0 : i ≠ 0 := by decide) (hi : X.N[i]? = some x := by rfl) (hx : Loc X.env.scope x := by first | exact Or.inl rfl | exact Or.inr rfl) (hs : swapsWith e (some (.Name x pos')) pos.line X.env = pure false := by rfl)
    (hf : X.fn x = true ∨ X.env.scope.names.lookup x = some .local := by first | exact .inl rfl | exact .inr rfl) : DSX X E (.Assign [.Name x pos'] e pos) (wSetX i ex) := by
  refine ps_weak (ps_set hN hi hx h hs hf) fun D σ H ⟨O, δ, P, PX, R, w, En, ob⟩ => ?_
  refine ⟨O, δ, _, PX, R, w, fun r δ1 v H1 w1 s1 R1 k1 => ?_, ob⟩
  split at w1
  · rename_i δ2 e
    obtain ⟨O2, tr, R2⟩ := put_ok h0 R s1 R1 k1 e
    exact En.nx _ _ _ _ w1 tr R2
  · exact w1.elim
/-- raise C() -/
structure ExcAt (K : PySem.W.Frag) (mg : Str → Option Value) (x : Str) (C : Addr) : Prop where
  m : mg x = some (.ref C)
  q : PySem.W.excIn K C HandSPX.veTail "ValueError.__new__" = true
  k : PySem.W.keepIn K (.ref C) = true
  s : PySem.W.subIn K (.ref C) (.type "BaseException") = some true
  t : PySem.W.typeIn K (.ref C) = some (.type "type")
theorem pmk_own0 {C : Addr} {bmB : List Value} {B newId initId : String} (F : ExcBaseFacts B newId initId bmB) (q : PySem.W.excIn X.K C bmB newId = true) (gC : X.mg x = some (.ref C)) (kC : PySem.W.keepIn X.K (.ref C) = true) (r : Raises X (.ref C)) (hg : Gl X x)
    (hdb : (x == ("__debug__" : Str)) = false := by decide) : PMk X (.Call (.Name x p) [] [] pos) (fun _ H Q => Q (.ref C) none H) := by
  intro pins s σ H Q I h
  refine wpAny_Call_Name_kw (ld_glob I hg gC (PySem.W.callWith_K0 I.kIn kC ?_) hdb)
  obtain ⟨bm, N, nm, qn, bs, hdct, sn, sub, ab, col, dd, k0, k1, k2, k3, k5, mN, hC, hN, hni, T⟩ := exc_obj I.kIn q
  exact wpAny_call_exc_subT F T hC hN hni (fun h' e hm => mk_of I hm r h (I.hok.gone hm.new)) (Nat.zero_le _)
def wRaise (n : Str) : WSX := fun _ PX _ => PX n
theorem dsx_raise {C : Addr} (hc : X.calm = true) (tk : Takes X (WofE E)) (F : ∃ initId, ExcBaseFacts "ValueError" "ValueError.__new__" initId HandSPX.veTail) (a : ExcAt X.K X.mg x C) (hg : Gl X x) (hdb : (x == ("__debug__" : Str)) = false := by decide) :
    DSX X E (.Raise (some (.Call (.Name x p) [] [] pos)) none pos') (wRaise x) := by
  obtain ⟨_, F⟩ := F
  refine ps_weak (ps_raise hc tk (pmk_own0 F a.q a.m a.k (raises_own a.s a.t) hg hdb)) fun D σ H ⟨O, δ, P, PX, R, w, En, ob⟩ => ?_
  exact ob x _ H w a.m XS.refl
end
/-! ### a def that may raise -/
theorem fnG_ofX {P : Program} {w : World} {K : PySem.W.Frag} {mg : Str → Option Value} {base : Heap} {x qual : Str} {st : Stmt} {f : Addr} {fd : FuncData} {N ps : List Str} {k : Nat} {sp : Sp} (F : Fun K x qual st f fd) (S : FnScope N ps (defScope st)) (len : ∀ ys G Q E, sp ys G Q E → ys.length = ps.length)
    (hbody : ∀ (cdv : Value) (A : Around) (outer : List Env) (s : Shared) (G : Hp) (ys : List V) (Q : VK) (E : XK), A.guards = some [] → Room k (A.deeper (envOfC qual (defScope st) s.heap.objs.size f cdv)) → sp ys G Q E →
      ∃ t, PSs (cxOf (L2.CX P w) P w K mg base N qual (defScope st) f cdv A outer s G E) (defBody st) t ∧ t { nx := fun _ G' => Q .non G', rt := Q } (start N ys) G) : FnG P w K mg base (L2.CX P w) (k + 1) f fd ps sp := by
  obtain ⟨oc, od, kV, doc, pm, an, cdv, ct, osl, rfl, lk, hcd⟩ := F.ex
  refine ⟨len, fun A outer s G args us ys Q E g0 room e0 hb r pr => ?_⟩
  have ll := len _ _ _ _ pr
  have kin : K.In s.heap := e0.mod.kin.keeps fun b o e => (e0.bs b o e).1
  have nol : s.heap.NoLimit := e0.mod.nolimit.keeps fun b o e => (e0.bs b o e).1
  have kinds : ∀ y ∈ ps.zip us, (defScope st).names.lookup y.1 = some .local ∨ ((defScope st).names.lookup y.1 = some .cell ∧ ((cellsFrom (s.heap.objs.size + 1) (defScope st).names []).lookup y.1).isSome = true) := by
    rintro ⟨n, v⟩ hy
    have hp := S.par n (List.of_mem_zip hy).1
    exact hp.imp id fun q => ⟨q, PySem.W.cellsFrom_some _ _ _ (.inl q)⟩
  refine codeAny_call_function room.depth (kin _ _ lk) rfl S.co S.gen rfl (PySem.W.codeRec_of kin hcd) (hb _ _ _ _ ?_)
  refine wpAny_newFunctionEnv_cells S.kind kinds fun env ee s1 y => ?_
  subst ee
  refine ⟨nol.keeps y.toInCall.keep, codeAny_func ?_⟩
  obtain ⟨t, ht, hq⟩ := hbody cdv A outer s G ys Q E g0 (room.deeper _) pr
  have I : Inv (cxOf (L2.CX P w) P w K mg base N qual (defScope st) f cdv A outer s G E) [] (start N ys) G s1 := inv_start S room.hd e0 ll r y
  refine wpAny_mono (ht.run [] s1 (start N ys) G _ I hq) (fun fl s' hs => ?_) fun _ _ z => z
  have done : ∀ {τ : L2.St} {G' : Hp} {v : V} {u : Value}, Inv (cxOf (L2.CX P w) P w K mg base N qual (defScope st) f cdv A outer s G E) [] τ G' s' → RelV v u → Q v G' → CE outer P w G s Q u s' :=
    fun J rv q => ⟨_, _, J.os, J.bare, J.base, J.hok, rv, q⟩
  cases fl with
  | ret u => obtain ⟨v, τ, G', J, rv, q⟩ := hs; exact done J rv q
  | next => obtain ⟨τ, G', J, q⟩ := hs; exact done (v := V.non) (u := Value.none) J rfl q
  | brk => obtain ⟨τ, G', J, q⟩ := hs; exact q.elim
  | cont => obtain ⟨τ, G', J, q⟩ := hs; exact q.elim
theorem fnDX {P : Program} {w : World} {K : PySem.W.Frag} {mg : Str → Option Value} {base : Heap} {x qual : Str} {st : Stmt} {f : Addr} {fd : FuncData} {N ps : List Str} {k : Nat} {S : WEX} {wb : WSX} (F : Fun K x qual st f fd) (Sc : FnScope N ps (defScope st)) (hN : ps.length ≤ N.length)
    (hS : ∀ δ P PX, S δ P PX → ArgOk ps.length δ ∧ wb (endsOf δ P) PX (δ ++ List.replicate (N.length - ps.length) Sl.un))
    (hbody : ∀ (cdv : Value) (A : Around) (outer : List Env) (s : Shared) (G : Hp) (E : XK), A.guards = some [] → Room k (A.deeper (envOfC qual (defScope st) s.heap.objs.size f cdv)) → Takes (cxOf (L2.CX P w) P w K mg base N qual (defScope st) f cdv A outer s G E) (WofE E) →
      PassesOwn (model P w) (cxOf (L2.CX P w) P w K mg base N qual (defScope st) f cdv A outer s G E).A (cxOf (L2.CX P w) P w K mg base N qual (defScope st) f cdv A outer s G E).env (cxOf (L2.CX P w) P w K mg base N qual (defScope st) f cdv A outer s G E).xe →
      DSsX (cxOf (L2.CX P w) P w K mg base N qual (defScope st) f cdv A outer s G E) E (defBody st) wb) : FnG P w K mg base (L2.CX P w) (k + 1) f fd ps (spX K mg S) := by
  have len : ∀ ys G Q E, spX K mg S ys G Q E → ys.length = ps.length := fun ys G Q E ⟨O, δ, P, PX, R, hs, _⟩ => by
    have := R.len
    rw [List.length_map] at this
    rw [← this]
    exact (hS δ P PX hs).1.1
  refine fnG_ofX F Sc len fun cdv A outer s G ys Q E g0 room pr => ⟨_, hbody cdv A outer s G E g0 room (takes_of rfl rfl rfl rfl) (passes_of rfl), ?_⟩
  have ly := len _ _ _ _ pr
  obtain ⟨O, δ, Pd, PX, R, hs, f, ob⟩ := pr
  obtain ⟨ao, hw⟩ := hS δ Pd PX hs
  obtain ⟨R2, En, own, ownM⟩ := start_ok (N := N) ly R ao f
  refine ⟨O, _, _, PX, R2, hw, En, fun n cls H' pn mn xs => ob n cls H' pn mn ⟨xs.same, fun a oa no _ => xs.frame a oa (fun z => no (own a z)) (ownM a)⟩⟩
theorem fnX_in {P : Program} {w : World} {K : PySem.W.Frag} {mg : Str → Option Value} {base h : Heap} {x : Str} {st : Stmt} {ps : List Str} {S : WEX} {k : Nat} (X : K.In h) (G : h.Ns mainGlobals mg) (d : DefIn K x st)
    (hb : ∀ (kV doc pm : Value) (an : Option Addr) (cdv ct : Value) (us : List Value), us.length = ps.length → bindArgs (PySem.W.fnOf x x (defArgs st) (defBody st) (defScope st) .none kV doc pm an cdv ct) ⟨us, []⟩ = pure (ps.zip us))
    (ok : ∀ {f : Addr} {fd : FuncData}, Fun K x x st f fd → FnG P w K mg base (L2.CX P w) k f fd ps (spX K mg S)) : FnX P w K mg base k x S := by
  obtain ⟨f, oc, od, kV, dc, pm, an, cd, ct, sl, a, l, c, kp⟩ := d
  have F := fun_mk (st := st) l c kp
  exact ⟨f, _, ps, PySem.W.mg_of X G a, kp, F.binds hb, ok F⟩
/-! ### try: return e, except C: suite -/
section
variable {X : Cx} {e : Expr} {x : Str} {suite : List Stmt} {b₀ : Stmt} {np pos pos' pos2 : Pos} {ex : WEX} {ws : WS} {C : Addr}
/-- which of the classes are taken by the clause -/
def ExmOk (K : PySem.W.Frag) (mg : Str → Option Value) (x : Str) (C : Addr) (ns : List Str) : Prop := ∀ n ∈ ns, ∀ cls, mg n = some cls → PySem.W.exmOne K cls (.ref C) = some (decide (n = x))
/-- what is known behind a raise: no list of one's own -/
def stayD (δ : Dl) : Dl := δ.map fun s => match s with
  | .d x => .d x
  | _ => .un
theorem stay_at {δ : Dl} {i : Nat} {s : Sl} (e : (stayD δ)[i]? = some s) (n : s ≠ .un) : ∃ x, s = .d x ∧ δ[i]? = some (.d x) := by
  unfold stayD at e
  rw [List.getElem?_map] at e
  cases q : δ[i]? with
  | none => rw [q] at e; cases e
  | some t =>
    rw [q] at e
    cases t <;> first | (cases e; exact absurd rfl n) | skip
    rename_i x
    cases e
    exact ⟨x, rfl, rfl⟩
theorem rep_stay {K : PySem.W.Frag} {O : Addr → Prop} {δ : Dl} {σ : L2.St} {H H' : Hp} (R : Rep K O δ σ H) (x : XS O δ σ H H') : Rep K (fun _ => False) (stayD δ) σ H' := by
  have up : Same (hid H O) (hid H' fun _ => False) := x.same.trans (hid_sub fun _ z => z.elim)
  refine ⟨by unfold stayD; rw [List.length_map]; exact R.len, fun i y e => ?_, fun i ys e => ?_, fun i j xs ys a e => ?_, fun a z => z.elim, .none fun i s e => ?_⟩
  · obtain ⟨z, q, e⟩ := stay_at e (by simp)
    cases q
    obtain ⟨v, e1, d⟩ := R.dat i y e
    exact ⟨v, e1, Dp.up d up⟩
  · obtain ⟨z, q, _⟩ := stay_at e (by simp)
    cases q
  · obtain ⟨z, q, _⟩ := stay_at e (by simp)
    cases q
  · cases s <;> first | rfl | (obtain ⟨z, q, _⟩ := stay_at e (by simp); cases q)
/-- a def's own way: nothing of the caller's is owned -/
def wTry (ex : WEX) (x : Str) (ns : List Str) (ws : WS) : WS := fun P δ => (∀ (i : Nat) s, δ[i]? = some s → s = .un ∨ ∃ y, s = .d y) ∧ ex δ (fun r δ1 => P.rt r δ1) fun n => n ∈ ns ∧ n = x ∧ ws P δ
theorem ds_try {ns : List Str} (hs : X.stack = X.env :: X.outer) (hf : X.env.frame = some X.env.locals) (hg : Gl X x) (hdb : (x == ("__debug__" : Str)) = false) (hm : X.mg x = some (.ref C)) (em : ExmOk X.K X.mg x C ns) (tk : Takes X fun _ _ _ _ => False)
    (he : ∀ (W : WX) (pn : List (Addr × Obj)) (xe : Value → Shared → Prop), Takes (X.tr pn xe) W → PassesOwn (model X.prog X.w) X.A X.env xe → DEX (X.tr pn xe) W e ex)
    (hsu : ∀ (a : Addr) (oe : Obj) (pn : List (Addr × Obj)), DSs (X.suite a ((a, oe) :: pn)) (b₀ :: suite) ws) :
    DS X (.Try [.Return (some e) pos2] [.ExceptHandler (some (.Name x np)) none (b₀ :: suite) pos'] [] [] pos) (wTry ex x ns ws) := by
  refine ps_weak (ps_try_only (Wout := fun _ _ _ _ => False) (tb := fun W D σ H => liftX X.K X.mg W ex σ H D.rt) (ts := fun a cls d => liftS X.K ws) hs hf ⟨hg, hdb, .inl hm⟩ tk (fun W pn xe tkW po => pss_one (ps_ret (he W pn xe tkW po))) fun a oe cls d pn _ _ => hsu a oe pn) fun D σ H ⟨O, δ, P, R, ⟨hd, w⟩, En⟩ => ?_
  refine ⟨O, δ, _, _, R, w, fun r δ1 v H1 w1 s1 R1 k1 => En.rt _ _ _ _ _ _ w1 s1.tr R1 k1, fun n cls H' ⟨hn, q, wq⟩ mn xs => ?_⟩
  subst q
  refine ⟨true, by rw [em n hn cls mn, decide_eq_true rfl], fun _ a _ => ?_, fun z => by cases z⟩
  have no : ∀ a, ¬ Own δ σ a := fun a ⟨i, ys, e1, _⟩ => by rcases hd i _ e1 with z | ⟨y, z⟩ <;> cases z
  have noM : ∀ a, ¬ OwnM δ σ a := fun a ⟨i, ys, e1, _⟩ => by rcases hd i _ e1 with z | ⟨y, z⟩ <;> cases z
  have fr : ∀ a, O a → H' a = H a := fun a oa => xs.frame a oa (no a) (noM a)
  have tr : Tr O O δ δ σ σ H H' := (show Stp O δ δ σ H H' from ⟨xs.same, fun a oa _ => fr a oa, fun _ => Iff.rfl, fun _ _ => Iff.rfl, fun _ _ z => z⟩).tr
  exact ⟨O, δ, P, R.mv xs.same fr, wq, En.after R (R.mv xs.same fr) tr⟩
end
theorem ve_base : ∃ initId, ExcBaseFacts "ValueError" "ValueError.__new__" initId HandSPX.veTail := ⟨_, PySem.F.excBase_ValueError⟩
theorem exm_one1 {K : PySem.W.Frag} {mg : Str → Option Value} {x : Str} {C : Addr} (m : mg x = some (.ref C)) (e : PySem.W.exmOne K (.ref C) (.ref C) = some true) : ExmOk K mg x C [x] := fun n hn cls q => by
  obtain rfl : n = x := by simpa using hn
  rw [m] at q
  cases q
  rw [e, decide_eq_true rfl]
/-- except C takes what is of C itself -/
theorem exm_own {K : PySem.W.Frag} {C : Addr} (b : PySem.W.subIn K (.ref C) (.type "BaseException") = some true) (i : PySem.W.isClsIn K C = true) (t : PySem.W.typeIn K (.ref C) = some (.type "type")) (s : PySem.W.subIn K (.ref C) (.ref C) = some true) : PySem.W.exmOne K (.ref C) (.ref C) = some true := by
  have i' : (PySem.W.clsIn K C).isSome = true := i
  have both : ((PySem.W.clsIn K C).isSome && PySem.W.typeIn K (.ref C) == some (.type "type")) = true := by rw [i', t] <;> rfl
  have base : (PySem.W.subIn K (.ref C) (.type "BaseException") == some true) = true := by rw [b] <;> rfl
  unfold PySem.W.exmOne
  rw [if_pos base]
  show (if ((PySem.W.clsIn K C).isSome && PySem.W.typeIn K (.ref C) == some (.type "type")) = true then PySem.W.subIn K (.ref C) (.ref C) else none) = some true
  rw [if_pos both]
  exact s
end Dw

/-! dicts whose keys are tuples of ints: made by a comprehension, by dict(zip(..)), by a display -/
namespace Dw
open PySem PySem.Spec PyProof.Rows L2
section
variable {X : Cx}
theorem d_setT {pins : List (Addr × Obj)} {σ : L2.St} {H : Hp} {s : Shared} {E : Value → Shared → Prop} {D b : Addr} {kvs : List (List Key × V)} {k : List Key} {v : V} {r : Value} {Q : Unit → Shared → Prop} (hu : X.A.units + 1 < cLine) (I : Inv X pins σ H s) (hD : H D = some (.dT kvs))
    (eb : H b = some (.tup (k.map kV))) (hz : kvs.length < sizeLine) (rv : RelV v r) (h : ∀ s', Inv X pins σ (upd H D (.dT (putK kvs k v))) s' → Q () s') : wpAny (model X.prog X.w) X.A (dictSet D (.ref b) r) Q E s := by
  obtain ⟨z, low, xs, rel, dd⟩ := dt_of I.hok hD
  have lx : xs.length ≤ sizeLine := by rw [← Paired.length rel]; exact z
  have lp : (putK kvs k v).length ≤ sizeLine := by have := length_putK kvs k v; omega
  refine wpAny_dictSet_heap (hsz := lx) (by show X.A.units < cLine; omega) (key_of I.hok eb) dd fun h' d2 hs => h _ ?_
  obtain ⟨q, es, ep, hq, g2, g3, g4, _, g5⟩ := d2
  refine d_write I (by rw [hD]; exact True.intro) hs ⟨q, hq⟩ ⟨lp, low, _, (rel.put k eb rv).keeps fun c ys ec => ?_, q, es, ep, hq, g2, g3, g4, g5⟩
  rw [upd_ne (ne_of ec hD (fun z => nomatch z))]; exact ec
/-- {k: v for ..}, k tuples of ints: the reading -/
def tDcT (wi : TI) (g : TG) (tt : TT) (tk tv : TE) (vs : List Nat) : TE := fun σ H Q => wi σ H fun J H1 => ∀ D, H1 D = none → ∃ W : Nat → Nat → Hp → Prop, (∃ m, W 0 m (upd H1 D (.dT []))) ∧ ∀ i m H, W i m H →
  (J.stop i H ∧ Q (.ref D) H) ∨ (J.go i H ∧ ∃ Nx : Hp → Prop, (∀ H', Nx H' → ∃ m', m' < m ∧ W (i + 1) m' H') ∧ ∀ x H', J.yld i H x H' → g x (wipe σ vs) H' fun σ2 H2 => wipe σ2 vs = wipe σ vs ∧ tt σ2 H2 fun c H3 =>
    if c = true then tk σ2 H3 fun y H4 => tv σ2 H4 fun z H5 => ∃ kvs k b, y = .ref b ∧ H5 b = some (.tup (k.map kV)) ∧ H5 D = some (.dT kvs) ∧ kvs.length < sizeLine ∧ Nx (upd H5 D (.dT (putK kvs k z))) else Nx H3)
theorem pe_dcT {kx vx tg iter : Expr} {ifs : List Expr} {scope : Scope} {own : List (Str × Nat)} {pos : Pos} {wi : TI} {g : TG} {tt : TT} {tk tv : TE} (hu : X.A.units + 1 < cLine) (hc : X.calm = true) (hN : X.N.Nodup) (hi : PI X tg iter wi) (ok : BlkOk X.N X.env.scope scope own)
    (hg : ∀ (s : Shared) (H : Hp) (C : Addr) (cl : List (Str × Addr)) (fp : List Addr), PG (X.blk s H scope (compEnvC scope cl C X.env) fp) tg g) (ht : ∀ (s : Shared) (H : Hp) (C : Addr) (cl : List (Str × Addr)) (fp : List Addr), PTs (X.blk s H scope (compEnvC scope cl C X.env) fp) ifs tt)
    (hk : ∀ (s : Shared) (H : Hp) (C : Addr) (cl : List (Str × Addr)) (fp : List Addr), PE (X.blk s H scope (compEnvC scope cl C X.env) fp) kx tk) (hv : ∀ (s : Shared) (H : Hp) (C : Addr) (cl : List (Str × Addr)) (fp : List Addr), PE (X.blk s H scope (compEnvC scope cl C X.env) fp) vx tv)
    (hs : ∀ x, foldedSetIterable iter X.env x = pure x := by intro _; rfl) : PE X (.DictComp kx vx [⟨tg, iter, ifs, 0⟩] scope pos) (tDcT wi g tt tk tv (own.map (·.2))) := by
  refine ⟨fun pins s σ H Q I h => ?_⟩
  rw [arm_eval_DictComp]
  have freeC : ∀ y ∈ scope.names, y.2 = .free → ∃ c, X.env.cells.lookup y.1 = some c := fun y hy e => (ok.free y hy e).elim (fun z => I.ok.has _ (.inl z)) fun z => I.ok.has _ (.inr z)
  refine wpAny_comprehension_free (use := none) rfl hs (closure_ok freeC) ok.kind (fun y hy e => by rw [ok.uniq y hy, e]) (thn (hi.run pins s σ H _ I h) fun xv sa hx => thn hx fun itv sb hb => ?_)
  obtain ⟨it, fp, tn, J, Hb, rfl, Ib, T, stb, fpb, q⟩ := hb
  refine wpAny_newObj_type (newEnv_comp ?_)
  generalize eD : sb.heap.objs.size = D
  have nD : Hb D = none := Ib.hok.fresh (Nat.le_of_eq eD)
  obtain ⟨W, ⟨m0, w0⟩, turn⟩ := q D nD
  generalize es3 : ({ sb with heap := sb.heap.push { cls := .type "dict", data := .dict #[] } } : Shared) = s3
  have eh3 : s3.heap = sb.heap.push { cls := .type "dict", data := .dict #[] } := by rw [← es3]
  have I3 : Inv X pins σ (upd Hb D (.dT [])) s3 := by
    rw [← es3]
    refine Ib.laid (t' := sb.toks) (fun b o e => Heap.get?_push_of_some _ e) (Nat.le_of_eq eD) ?_
    rw [← eD]; exact dt_empty sb.heap Ib.big
  have small : ∀ b ∈ fp, b < sb.heap.objs.size := fun b hb => let ⟨o, e, _⟩ := T.obj _ _ stb b hb; Heap.lt_size e
  have fp3 : ∀ b ∈ fp, FpOk X pins (upd Hb D (.dT [])) b ∧ b < s3.heap.objs.size := fun b hb => by
    have lt := small b hb
    refine ⟨⟨?_, (fpb b hb).2⟩, by rw [eh3, Heap.size_push]; exact Nat.lt_succ_of_lt lt⟩
    rw [upd_ne (by rw [← eD]; exact Nat.ne_of_lt lt)]; exact (fpb b hb).1
  have st3 : tn 0 s3.heap := T.keep _ _ _ stb fun b _ o e => by rw [eh3]; exact Heap.get?_push_of_some _ e
  have I4 := block_start I3 ok hN fp3
  have pg := hg s3 (upd Hb D (.dT [])) s3.heap.objs.size (cellsFrom (s3.heap.objs.size + 1) scope.names (cloFrom X.env.cells scope.names [])) fp
  have pt := ht s3 (upd Hb D (.dT [])) s3.heap.objs.size (cellsFrom (s3.heap.objs.size + 1) scope.names (cloFrom X.env.cells scope.names [])) fp
  have pk := hk s3 (upd Hb D (.dT [])) s3.heap.objs.size (cellsFrom (s3.heap.objs.size + 1) scope.names (cloFrom X.env.cells scope.names [])) fp
  have pv := hv s3 (upd Hb D (.dT [])) s3.heap.objs.size (cellsFrom (s3.heap.objs.size + 1) scope.names (cloFrom X.env.cells scope.names [])) fp
  show codeAny _ _ (.compStart (.DictComp kx vx [⟨tg, iter, ifs, 0⟩] scope pos) 0 (.ref it) (.ref D) (compEnvC scope (cellsFrom (s3.heap.objs.size + 1) scope.names (cloFrom X.env.cells scope.names [])) s3.heap.objs.size X.env)) (compPost (model X.prog X.w) X.A X.xe none (EP X pins σ Q) (.ref D) s3.heap.objs.size) { s3 with heap := pushCells (s3.heap.push { cls := .type "dict", data := .dict #[] }) scope.names }
  have no3 : ∀ b ∈ fp, (upd Hb D (.dT [])) b = none := fun b hb => (fp3 b hb).1.1
  generalize ece : compEnvC scope (cellsFrom (s3.heap.objs.size + 1) scope.names (cloFrom X.env.cells scope.names [])) s3.heap.objs.size X.env = ce at I4 pg pt pk pv ⊢
  have locC : ce.locals = s3.heap.objs.size := by subst ece; rfl
  generalize eH3 : upd Hb D (.dT []) = H3 at I3 I4 pg pt pk pv w0 no3 fp3
  generalize es4 : ({ s3 with heap := pushCells (s3.heap.push { cls := .type "dict", data := .dict #[] }) scope.names } : Shared) = s4 at I4 ⊢
  have st4 : tn 0 s4.heap := T.keep _ _ _ st3 fun b _ o e => by rw [← es4]; exact pushCells_keeps _ _ _ _ (Heap.get?_push_of_some _ e)
  have stat : ∀ {τ : L2.St} {G : Hp} {s' : Shared}, Inv (X.blk s3 H3 scope ce fp) [] τ G s' → (∀ b ∈ fp, G b = none) → ∀ b ∈ fp, FpOk (X.blk s3 H3 scope ce fp) [] G b := fun {τ G s'} J' hn b hb =>
    ⟨hn b hb, (J'.ok.exf b hb).1, J'.ok.exfs b hb, .inl hb, fun x c e => (J'.ok.exf b hb).2 x c e, fun p hp => absurd (show p ∈ ([] : List (Addr × Obj)) ++ [] from hp) (by simp)⟩
  have run : codeAny (model X.prog X.w) X.A (.compLoop (.DictComp kx vx [⟨tg, iter, ifs, 0⟩] scope pos) 0 (.ref it) (.ref D) ce) (compPost (model X.prog X.w) X.A X.xe none (EP X pins σ Q) (.ref D) s3.heap.objs.size) s4 := by
    refine compLoop_anyD (fun n s' => ∃ i G, Inv (X.blk s3 H3 scope ce fp) [] (wipe σ (own.map (·.2))) G s' ∧ tn i s'.heap ∧ (∀ b ∈ fp, G b = none) ∧ W i n G) ?_ m0 ⟨0, H3, I4, st4, no3, w0⟩
    rintro n s5 ⟨i, H5, I5, st5, no5, w5⟩
    rcases turn i n H5 w5 with ⟨stop, qq⟩ | ⟨go, Nx, hNx, step⟩
    · refine thnF (T.done (X.blk s3 H3 scope ce fp) rfl rfl rfl hc i [] s5 _ H5 (fun _ _ => False) I5 (stat I5 no5) st5 stop) fun r s6 ⟨hr, I6⟩ => ?_
      subst hr
      have I7 : Inv X pins σ H5 s6 := I3.call' (ch := fp) I6.os I6.base I6.hok I6.bare fun b hb => ⟨(fp3 b hb).1.2.2.2.1, (fp3 b hb).1.2.1, (fp3 b hb).1.2.2.2.2.1, (fp3 b hb).1.2.2.2.2.2⟩
      have nC : H5 s3.heap.objs.size = none := by
        have z : H5 ce.locals = none := I6.free
        rwa [locC] at z
      obtain ⟨ml, hn, _⟩ := I6.loc
      have hn : s6.heap.Ns ce.locals ml := hn
      rw [locC] at hn
      refine ⟨ml, hn, fun h'' sb' => ?_⟩
      obtain ⟨f0, f1, f2, f3, f4, f5⟩ := I3.fpOk (Nat.le_refl _) nC
      exact ⟨.ref D, H5, I7.turned (t' := s6.toks) (fun b o hb e => (sb'.2 b hb).trans e) f0 f1 f3 f4 f5, rfl, qq⟩
    · refine thnF (T.item (X.blk s3 H3 scope ce fp) rfl rfl rfl hc i [] s5 _ H5 (fun _ _ => False) I5 (stat I5 no5) st5 go) fun r s6 ⟨u, hr, h6⟩ => ?_
      subst hr
      refine thnF h6 fun _ s7 ⟨x, H7, I7, r7, y7, st7, no7⟩ => ?_
      refine thnF (pg.run _ s7 _ H7 x u _ (I7.pinned (stat I7 no7) (T.obj _ _ st7)) r7 (step x H7 y7)) fun _ s8 ⟨σ8, H8, I8, hw8, q8⟩ => ?_
      refine thnF (pt.run _ s8 σ8 H8 _ I8 q8) fun c s9 ⟨H9, I9, q9⟩ => ?_
      have back : ∀ {s' : Shared} {G : Hp}, Inv (X.blk s3 H3 scope ce fp) ([] ++ pinsAt fp s7.heap) σ8 G s' → Nx G → ∃ m, m < n ∧ ∃ i G, Inv (X.blk s3 H3 scope ce fp) [] (wipe σ (own.map (·.2))) G s' ∧ tn i s'.heap ∧ (∀ b ∈ fp, G b = none) ∧ W i m G := fun {s' G} J' nx => by
        obtain ⟨m', lm, w'⟩ := hNx G nx
        have pinned : ∀ b ∈ fp, ∀ o, s7.heap.get? b = some o → s'.heap.get? b = some o ∧ G b = none := fun b hb o e => by
          have z := J'.pin (b, o) (List.mem_append_right _ (List.mem_append_right _ (mem_pinsAt hb e)))
          exact ⟨z.1, z.2.1⟩
        have ll : (wipe σ (own.map (·.2))).length = σ8.length := by rw [← hw8, wipe_length]
        refine ⟨m', lm, i + 1, G, (J'.unpinned (pins := [])).weak ll (fun j v e => by rw [← hw8] at e; exact (wipe_some e).1), T.keep _ _ _ st7 fun b hb o e => (pinned b hb o e).1, fun b hb => ?_, w'⟩
        obtain ⟨o, e, _⟩ := T.obj _ _ st7 b hb
        exact (pinned b hb o e).2
      cases c with
      | false => exact back I9 (by simpa using q9)
      | true =>
        simp only [if_true] at q9 ⊢
        refine thnF (pk.run _ s9 σ8 H9 _ I9 q9) fun z s10 ⟨yk, H10, I10, r10, q10⟩ => ?_
        refine thnF (pv.run _ s10 σ8 H10 _ I10 q10) fun z2 s11 ⟨yv, H11, I11, r11, kvs, k, b, ek, eb, eD11, lz, nx⟩ => ?_
        subst ek
        cases (show z = Value.ref b from r10)
        exact d_setT (X := X.blk s3 H3 scope ce fp) hu I11 eD11 eb lz r11 fun s12 I12 => back I12 nx
  exact codeAny_compStart_dict run (T.self X.A 0 _ _ _ st4 run)
end
/-! by data -/
def wGoT (b : WB) (t : WT) (wk wv : WE) (vs : List Nat) (k : List (List Int × Int) → Dl → Prop) : List PyData → List (List Int × Int) → Dl → Prop
  | [], acc, δ => k acc δ
  | x :: r, acc, δ => b x δ fun δ1 => t δ1 fun c δ2 => if c = true then wk δ2 fun y δ3 => wv δ3 fun z δ4 => ∃ (ks : List Int) (j : Int), y = .d (.tuple (ks.map PyData.int)) ∧ z = .d (.int j) ∧ wGoT b t wk wv vs k r (putI acc ks j) (wipeD δ4 vs) else wGoT b t wk wv vs k r acc (wipeD δ2 vs)
def wDcT (wi : WI) (b : WB) (t : WT) (wk wv : WE) (vs : List Nat) : WE := fun δ P => wi δ fun ds δ1 => (ds.length ≤ 10000 ∧ unAll δ1 vs = true) ∧ wGoT b t wk wv vs (fun acc δ' => P (.d (dtD acc)) δ') ds [] δ1
section
variable {X : Cx} {tg iter e kx vx : Expr} {wk wv we wo : WE} {wi : WI} {pos p : Pos} {ifs : List Expr} {scope : Scope} {own : List (Str × Nat)} {js : List Nat} {b : WB} {t : WT}
def AtT (K : PySem.W.Frag) (O : Addr → Prop) (D : Addr) (vs : List Nat) (δ0 : Dl) (σ0 : L2.St) (H0 : Hp) (b : WB) (t : WT) (wk wv : WE) (k : List (List Int × Int) → Dl → Prop) (ds : List PyData) (i : Nat) (H : Hp) : Prop :=
  ∃ δ acc, Rep K O δ σ0 H ∧ Blk O D vs δ0 δ σ0 H0 H ∧ H D = some (.dT (acc.map entT)) ∧ acc.length ≤ i ∧ wGoT b t wk wv vs k (ds.drop i) acc δ
theorem dcT_it {J : It} {n : Nat} {GG : Hp → Prop} {Y : Nat → Hp → V → Hp → Prop} {g : TG} {tt : TT} {tk tv : TE} {vs : List Nat} {σ : L2.St} {H1 : Hp} {D : Addr} {Qd : Hp → Prop} (wk : Walk J n GG Y) (Pv : Nat → Hp → Prop) (h0 : Pv 0 (upd H1 D (.dT []))) (hl : ∀ i H, i ≤ n → Pv i H → GG H)
    (hs : ∀ i x H H', i < n → Pv i H → Y i H x H' → g x (wipe σ vs) H' fun σ2 H2 => wipe σ2 vs = wipe σ vs ∧ tt σ2 H2 fun c H3 => if c = true then tk σ2 H3 fun y H4 => tv σ2 H4 fun z H5 => ∃ kvs k b, y = .ref b ∧ H5 b = some (.tup (k.map kV)) ∧ H5 D = some (.dT kvs) ∧ kvs.length < sizeLine ∧ Pv (i + 1) (upd H5 D (.dT (putK kvs k z))) else Pv (i + 1) H3)
    (hd : ∀ H, Pv n H → Qd H) : ∃ W : Nat → Nat → Hp → Prop, (∃ m, W 0 m (upd H1 D (.dT []))) ∧ ∀ i m H, W i m H → (J.stop i H ∧ Qd H) ∨ (J.go i H ∧ ∃ Nx : Hp → Prop, (∀ H', Nx H' → ∃ m', m' < m ∧ W (i + 1) m' H') ∧ ∀ x H', J.yld i H x H' → g x (wipe σ vs) H' fun σ2 H2 => wipe σ2 vs = wipe σ vs ∧ tt σ2 H2 fun c H3 =>
      if c = true then tk σ2 H3 fun y H4 => tv σ2 H4 fun z H5 => ∃ kvs k b, y = .ref b ∧ H5 b = some (.tup (k.map kV)) ∧ H5 D = some (.dT kvs) ∧ kvs.length < sizeLine ∧ Nx (upd H5 D (.dT (putK kvs k z))) else Nx H3) := by
  refine ⟨fun i m H => m + i = n ∧ Pv i H, ⟨n, by omega, h0⟩, fun i m H ⟨hm, hp⟩ => ?_⟩
  by_cases q : i < n
  · exact .inr ⟨wk.goes i H q (hl i H (by omega) hp), Pv (i + 1), fun H' hp' => ⟨m - 1, by omega, by omega, hp'⟩, fun x H' y => hs i x H H' q hp (wk.yields i H x H' q (hl i H (by omega) hp) y)⟩
  · have e : i = n := by omega
    subst e
    exact .inl ⟨wk.stops H (hl i H (Nat.le_refl _) hp), hd H hp⟩
theorem lift_dcT {K : PySem.W.Frag} {vs : List Nat} (hjs : ∀ j ∈ js, j ∈ vs) {σ : L2.St} {H : Hp} {Q : VK} (q : lift K (wDcT wi b t wk wv vs) σ H Q) : tDcT (liftI K wi) (liftG K js b) (liftT K t) (lift K wk) (lift K wv) vs σ H Q := by
  obtain ⟨O, δ, P, R0, w, f⟩ := q
  refine ⟨O, δ, _, R0, w, fun ds δ1 H1 J w1 s1 R1 walk D hD => ?_⟩
  obtain ⟨⟨hz, hun⟩, w1⟩ := w1
  obtain ⟨GG, Y, walk, hG, hY⟩ := walk
  obtain ⟨R2, nD, nM⟩ := blk_start (o := .dT []) (vs := vs) R1 hD hun
  refine dcT_it walk (AtT K (fun a => O a ∨ a = D) D vs δ1 (wipe σ vs) (upd H1 D (.dT [])) b t wk wv (fun acc δ' => P (.d (dtD acc)) δ') ds) ?_ ?_ ?_ ?_
  · exact ⟨δ1, [], R2, ⟨Same.refl _, fun _ _ _ _ => rfl, fun _ _ => Iff.rfl, fun _ _ _ => Iff.rfl, hun, fun _ _ _ z => z⟩, upd_same, Nat.le_refl _, w1⟩
  · rintro i H2 _ ⟨δ2, acc, R3, B, _⟩
    exact hG H2 (((newO_up hD).trans B.same).trans hid_le)
  · rintro i x H2 H3 hi2 ⟨δ2, acc, R3, B, eD, lA, w2⟩ hy
    have e : ds[i]? = some ds[i] := List.getElem?_eq_getElem hi2
    have yl := hY i H2 x H3 _ e (((newO_up hD).trans B.same).trans hid_le) hy
    have yl2 : Yld K (hid (upd H1 D (.dT [])) fun a => O a ∨ a = D) H2 x H3 ds[i] := by
      rcases yl with ⟨e1, d⟩ | ⟨T, x1, x2, d1, d2, e1, e2, e3, e4, h1, h2⟩
      · exact .inl ⟨e1, Dp.up d (newO_up hD)⟩
      · exact .inr ⟨T, x1, x2, d1, d2, e1, e2, e3, e4, Dp.up h1 (newO_up hD), Dp.up h2 (newO_up hD)⟩
    rw [List.drop_eq_getElem_cons hi2] at w2
    refine blk_turn (js := js) hjs (.inr rfl) nD wipe_wipe hun R2.len R3 B yl2 w2 fun δ3 σ2 w3 hw R4 fin => ⟨hw, _, δ3, _, R4, w3, fun c δ4 H4 w4 s4 R5 => ?_⟩
    cases c with
    | false =>
      obtain ⟨R6, B6, e6, _⟩ := fin δ4 H4 s4 R5
      exact ⟨_, acc, R6, B6, e6.trans eD, by omega, w4⟩
    | true =>
      refine ⟨_, δ4, _, R5, w4, fun y δ5 vy H5 w5 s5 R6 k5 => ?_⟩
      refine ⟨_, δ5, _, R6, w5, fun z δ6 vz H6 w6 s6 R7 k6 => ?_⟩
      obtain ⟨ks, v, rfl, rfl, w6⟩ := w6
      obtain ⟨kb, rfl, ekb⟩ := dp_key k5
      have k6 : Dp K (hid H6 fun a => O a ∨ a = D) vz (.int v) := k6
      cases k6
      obtain ⟨R8, B8, e8, _⟩ := fin δ6 H6 ((s4.trans s5).trans s6) R7
      have n8 : ¬ Own (wipeD δ6 vs) (wipe σ vs) D := fun z => nD (B8.ownI z)
      have m8 : ¬ OwnM (wipeD δ6 vs) (wipe σ vs) D := fun z => nM (B8.ownMI z)
      refine ⟨acc.map entT, ky ks, kb, rfl, hid_le _ _ (s6.same _ _ ekb), e8.trans eD, by rw [List.length_map]; exact Nat.lt_of_le_of_lt (Nat.le_trans lA (Nat.le_trans (Nat.le_of_lt hi2) hz)) (by rw [sizeLine_eq]; decide), ?_⟩
      rw [put_dt]
      refine ⟨_, putI acc ks v, rep_updG R8 (.inr rfl) n8 m8, ⟨?_, fun a oa na no => ?_, B8.own, B8.dat, B8.un, B8.dct⟩, upd_same, ?_, w6⟩
      · rw [hid_upd (H := H6) (.inr rfl)]; exact B8.same
      · rw [upd_ne na]; exact B8.frame a oa na no
      · have := putI_len acc ks v; omega
  · rintro H2 ⟨δ2, acc, R3, B, eD, _, w2⟩
    rw [List.drop_length] at w2
    obtain ⟨s3, R4, nO⟩ := blk_end R0 s1 R1 hD hun R3 B
    refine f _ _ _ _ w2 s3 R4 (.dt ?_)
    rw [hid_no nO]; exact eD
theorem de_dcT (hu : X.A.units + 64 < cLine) (hc : X.calm = true) (hN : X.N.Nodup) (hi : DI X tg iter wi) (ok : BlkOk X.N X.env.scope scope own)
    (hg : ∀ (s : Shared) (H : Hp) (C : Addr) (cl : List (Str × Addr)) (fp : List Addr), DG (X.blk s H scope (compEnvC scope cl C X.env) fp) tg js b) (ht : ∀ (s : Shared) (H : Hp) (C : Addr) (cl : List (Str × Addr)) (fp : List Addr), DTs (X.blk s H scope (compEnvC scope cl C X.env) fp) ifs t)
    (hk : ∀ (s : Shared) (H : Hp) (C : Addr) (cl : List (Str × Addr)) (fp : List Addr), DE (X.blk s H scope (compEnvC scope cl C X.env) fp) kx wk) (hv : ∀ (s : Shared) (H : Hp) (C : Addr) (cl : List (Str × Addr)) (fp : List Addr), DE (X.blk s H scope (compEnvC scope cl C X.env) fp) vx wv)
    (hjs : ∀ j ∈ js, j ∈ own.map (·.2) := by decide) (hs : ∀ x, foldedSetIterable iter X.env x = pure x := by intro _; rfl) : DE X (.DictComp kx vx [⟨tg, iter, ifs, 0⟩] scope pos) (wDcT wi b t wk wv (own.map (·.2))) :=
  pe_weak (pe_dcT (wi := liftI X.K wi) (g := liftG X.K js b) (tt := liftT X.K t) (tk := lift X.K wk) (tv := lift X.K wv) (by omega) hc hN hi ok hg ht hk hv hs) fun σ H Q q => lift_dcT hjs q
end
/-! ### dict(zip(xs, ys)), xs a list of tuples of ints -/
def mergeT (acc : List (List Key × V)) (l : List (List Key × V)) : List (List Key × V) := l.foldl (fun acc p => putK acc p.1 p.2) acc
theorem KT.merge {H : Hp} : ∀ {l : List (List Key × V)} {ps : List (List Key × Addr × Value)} {acc : List (List Key × V)} {xs : List (List Key × Addr × Value)}, KT H l ps → KT H acc xs → KT H (mergeT acc l) (storedAllH xs ps)
  | [], _, acc, xs, h, a => by cases h; exact a
  | p :: l, _, acc, xs, h, a => by
    cases h with
    | cons h1 h2 =>
      rename_i q ps
      have := KT.put a p.1 (b := q.2.1) (y := p.2) (u := q.2.2) h1.2.1 h1.2.2
      have e : storedAllH xs (q :: ps) = storedAllH (storedH xs p.1 q.2.1 q.2.2) ps := by rw [h1.1]; rfl
      rw [e]
      show KT H (mergeT (putK acc p.1 p.2) l) _
      exact KT.merge h2 this
theorem mergeT_len : ∀ (l acc : List (List Key × V)), (mergeT acc l).length ≤ acc.length + l.length
  | [], acc => by simp [mergeT]
  | p :: l, acc => by
    have := mergeT_len l (putK acc p.1 p.2)
    have := length_putK acc p.1 p.2
    show (mergeT (putK acc p.1 p.2) l).length ≤ _
    rw [List.length_cons]
    omega
/-- keys, their places and values, side by side -/
def side : List (List Key) → List Addr → List Value → List (List Key × Addr × Value)
  | k :: ks, u :: us, v :: vs => (k, u, v) :: side ks us vs
  | _, _, _ => []
theorem side_len : ∀ (ks : List (List Key)) (us : List Addr) (vs : List Value), ks.length = us.length → (side ks us vs).length = min us.length vs.length
  | [], [], vs, _ => by simp [side]
  | k :: ks, u :: us, [], _ => by simp [side]
  | k :: ks, u :: us, v :: vs, h => by
    have := side_len ks us vs (by simpa using h)
    simp only [side, List.length_cons]
    omega
  | [], _ :: _, _, h => by simp at h
  | _ :: _, [], _, h => by simp at h
theorem side_at : ∀ {ks : List (List Key)} {us : List Addr} {vs : List Value} {i : Nat} {u : Addr} {v : Value}, ks.length = us.length → us[i]? = some u → vs[i]? = some v → ∃ k, ks[i]? = some k ∧ (side ks us vs)[i]? = some (k, u, v)
  | [], [], vs, i, u, v, _, h, _ => by simp at h
  | k :: ks, u0 :: us, [], i, u, v, _, _, h => by simp at h
  | k :: ks, u0 :: us, v0 :: vs, 0, u, v, _, h1, h2 => by
    cases h1; cases h2
    exact ⟨k, rfl, rfl⟩
  | k :: ks, u0 :: us, v0 :: vs, i + 1, u, v, h, h1, h2 => by
    obtain ⟨k', a, b⟩ := side_at (ks := ks) (us := us) (vs := vs) (i := i) (by simpa using h) h1 h2
    exact ⟨k', a, b⟩
  | [], _ :: _, _, _, _, _, h, _, _ => by simp at h
  | _ :: _, [], _, _, _, _, h, _, _ => by simp at h
theorem side_kt {H : Hp} : ∀ {ks : List (List Key)} {us : List Addr} {ws : List V} {vs : List Value}, ks.length = us.length → (∀ (i : Nat) (u : Addr) (k : List Key), us[i]? = some u → ks[i]? = some k → H u = some (.tup (k.map kV))) → Vals ws vs → KT H (ks.zip ws) (side ks us vs)
  | [], [], ws, vs, _, _, r => by
    cases r with
    | nil => exact .nil
    | cons _ _ => exact .nil
  | k :: ks, u :: us, _, _, h, hk, r => by
    cases r with
    | nil => exact .nil
    | cons r1 r2 => exact .cons ⟨rfl, hk 0 u k rfl rfl, r1⟩ (side_kt (by simpa using h) (fun i u' k' e1 e2 => hk (i + 1) u' k' e1 e2) r2)
  | [], _ :: _, _, _, h, _, _ => by simp at h
  | _ :: _, [], _, _, h, _, _ => by simp at h
theorem side_mem {H : Hp} {P : Program} {w : World} {hp : Heap} (ok : HOk P w H hp) : ∀ {ks : List (List Key)} {us : List Addr} {vs : List Value}, (∀ (i : Nat) (u : Addr) (k : List Key), us[i]? = some u → ks[i]? = some k → H u = some (.tup (k.map kV))) → ∀ x ∈ side ks us vs, (tupleKind (mixKind P w)).is hp x.1 x.2.1
  | [], _, _, _, x, hx => by simp [side] at hx
  | _ :: _, [], _, _, x, hx => by simp [side] at hx
  | _ :: _, _ :: _, [], _, x, hx => by simp [side] at hx
  | k :: ks, u :: us, v :: vs, hk, x, hx => by
    simp only [side, List.mem_cons] at hx
    rcases hx with rfl | hx
    · exact key_of ok (hk 0 u k rfl rfl)
    · exact side_mem ok (fun i u' k' e1 e2 => hk (i + 1) u' k' e1 e2) x hx
theorem refs_vals : ∀ {us : List Addr} {vs : List Value}, Vals (us.map V.ref) vs → vs = us.map Value.ref
  | [], _, r => by cases r; rfl
  | u :: us, _, r => by
    cases r with
    | cons r1 r2 =>
      cases r1
      rw [refs_vals r2]
      rfl
section
variable {X : Cx} {a b : Expr} {ta : TA} {p p2 pos pos2 : Pos}
def tDZ (K : PySem.W.Frag) (ta : TA) : TE := fun σ H Q => ta σ H fun vs H1 => ∃ (x y : Addr) (us : List Addr) (ks : List (List Key)) (ws : List V), vs = [.ref x, .ref y] ∧ SqL K H1 x (us.map V.ref) ∧ SqL K H1 y ws ∧ ks.length = us.length ∧ us.length < 100000 ∧
  (∀ (i : Nat) (u : Addr) (k : List Key), us[i]? = some u → ks[i]? = some k → H1 u = some (.tup (k.map kV))) ∧ ∀ D, H1 D = none → Q (.ref D) (upd H1 D (.dT (mergeT [] (ks.zip ws))))
theorem pe_dictZip (hu : X.A.units + 64 < cLine) (hc : X.calm = true) (hg : Gl X "dict") (hm : X.mg "dict" = none) (hg2 : Gl X "zip") (hm2 : X.mg "zip" = none) (ha : PA X [a, b] ta) (hs : starEach [a, b] X.env = (false, eval a X.env) :: starEach [b] X.env := by rfl) (hs2 : (backTo pos2 (starEach [b] X.env)).any (·.1) = false := by rfl)
    (hz : starEach [.Call (.Name "zip" p2) [a, b] [] pos2] X.env = (false, eval (.Call (.Name "zip" p2) [a, b] [] pos2) X.env) :: starEach [] X.env := by rfl) : PE X (.Call (.Name "dict" p) [.Call (.Name "zip" p2) [a, b] [] pos2] [] pos) (tDZ X.K ta) := by
  refine ⟨fun pins s σ H Q I q => Call_ (ld_blt I hg hm PyProof.Rows.boot_dict (PyProof.Rows.callWith_type1 ?_ hz rfl))⟩
  rw [hz]
  show wpAny _ _ (spliced ((false, eval (.Call (.Name "zip" p2) [a, b] [] pos2) X.env) :: backTo pos (starEach [] X.env))) _ _ s
  refine Calls.spliced_cons (Call_ (ld_blt I hg2 hm2 PyProof.Rows.boot_zip (PyProof.Rows.callWith_type1 (thn (ha.run pos2 pins s σ H _ I q) fun us0 s1 ⟨vs0, H1, I1, r1, q1⟩ => ?_) hs hs2)))
  obtain ⟨x, y, us, ks, ws, rfl, sx, sy, lk, lz, hk, q1⟩ := q1
  obtain ⟨u1, u2, rfl, e1, e2⟩ := vals2 r1
  cases e1
  cases e2
  obtain ⟨its, rv, p1, _⟩ := I1.list sx
  obtain ⟨its2, rv2, p2', _⟩ := I1.list sy
  have ei := refs_vals rv
  subst ei
  refine call_zip_2 p1.isList p2'.isList fun h' hz' hTI hTO h1 h2 hsz keep => Calls.spliced_nil ?_
  show wpAny _ _ (call (.type "dict") [.ref (s1.heap.objs.size + 4)]) _ _ _
  have lx : x < s1.heap.objs.size := p1.lt
  have ly : y < s1.heap.objs.size := p2'.lt
  have l2 : (us.map Value.ref).toArray.size = us.length := by simp
  have at' : ∀ {bb : Addr} {o : Obj}, s1.heap.get? bb = some o → h'.get? bb = some o := fun e => keep _ _ e
  refine call_dict_pairsH (knd := tupleKind (mixKind X.prog X.w)) (ps := side ks us its2) (PairArg.zip _ _ _ _ _ x y (PySem.W.ktu_apart s1.heap.objs.size x y lx ly) (us.map Value.ref).toArray its2.toArray) (I1.ok.hd hc) (by show X.A.units + 1 + 1 < cLine; omega) ⟨hz', hTI, ⟨_, _, hTO⟩, h1, h2, p1.isList.at fun o e => at' e, p2'.isList.at fun o e => at' e⟩ ⟨?_, ?_⟩ ?_ ?_ ?_
  · rw [side_len ks us its2 lk, l2, List.size_toArray]
  · rintro i key v ⟨g1, g2⟩
    have g1 : (us.map Value.ref)[i]? = some key := by simpa using g1
    have g2 : its2[i]? = some v := by simpa using g2
    rw [List.getElem?_map] at g1
    cases e : us[i]? with
    | none => rw [e] at g1; cases g1
    | some u =>
      rw [e] at g1
      cases g1
      obtain ⟨k, _, z⟩ := side_at lk e g2
      exact ⟨k, u, z, rfl⟩
  · intro h2' stay z hz2
    obtain ⟨o, us', n, g1, g2, g3, g4⟩ := side_mem I1.hok hk z hz2
    have lt : z.2.1 < s1.heap.objs.size := Heap.lt_size g1
    refine ⟨o, us', n, stay z.2.1 o (by rw [hsz]; exact Nat.ne_of_lt (Nat.lt_of_lt_of_le lt (Nat.le_add_right _ _))) (fun mem => ?_) (at' g1), g2, g3, g4⟩
    have : s1.heap.objs.size ≤ z.2.1 := by
      rcases (show z.2.1 = s1.heap.objs.size + 4 ∨ z.2.1 = s1.heap.objs.size + 3 ∨ z.2.1 = s1.heap.objs.size ∨ z.2.1 = s1.heap.objs.size + 1 by simpa using mem) with w | w | w | w <;> (rw [w]; first | exact Nat.le_add_right _ _ | exact Nat.le_refl _)
    exact Nat.lt_irrefl _ (Nat.lt_of_lt_of_le lt this)
  · rw [l2, List.size_toArray]
    exact Nat.le_trans (Nat.min_le_left _ _) (Nat.le_of_lt (small5 lz))
  · intro h2' tk dd stay
    have hD : s1.heap.objs.size ≤ h'.objs.size := by rw [hsz]; exact Nat.le_add_right _ _
    obtain ⟨o, es, ep, g1, g2, g3, g4, _, g5⟩ := dd
    have old : ∀ bb ob, s1.heap.get? bb = some ob → h2'.get? bb = some ob := fun bb ob e => by
      refine stay bb ob (fun mem => ?_) (at' e)
      have lt : bb < s1.heap.objs.size := Heap.lt_size e
      have : s1.heap.objs.size ≤ bb := by
        rcases (show bb = s1.heap.objs.size + 4 ∨ bb = s1.heap.objs.size + 3 ∨ bb = s1.heap.objs.size ∨ bb = s1.heap.objs.size + 1 by simpa using mem) with w | w | w | w <;> (rw [w]; first | exact Nat.le_add_right _ _ | exact Nat.le_refl _)
      exact Nat.lt_irrefl _ (Nat.lt_of_lt_of_le lt this)
    have nH : H1 h'.objs.size = none := I1.hok.fresh hD
    have kt := KT.merge (side_kt lk hk rv2) (acc := []) (xs := []) .nil
    refine ⟨.ref h'.objs.size, _, I1.laid (o := .dT (mergeT [] (ks.zip ws))) (t' := tk) old hD ⟨?_, ?_, _, kt.keeps (fun c ys ec => ?_), o, es, ep, g1, g2, g3, g4, g5⟩, rfl, q1 _ nH⟩
    · refine Nat.le_trans (mergeT_len _ _) ?_
      simp only [List.length_nil, Nat.zero_add, List.length_zip]
      exact Nat.le_trans (Nat.min_le_left _ _) (Nat.le_of_lt (small5 (by rw [lk]; exact lz)))
    · have := I1.big
      simp only [beq_eq_false_iff_ne, ne_eq]
      exact Nat.ne_of_gt (Nat.lt_of_lt_of_le this hD)
    · rw [upd_ne (ne_of_none ec nH)]; exact ec
def wDZ (u : WA) : WE := fun δ P => u δ fun rs δ1 => rs.all noB = true ∧ ∃ (ks : List (List Int)) (js : List Int), rs.map Rv.as = [.list (ks.map fun k => .tuple (k.map PyData.int)), .list (js.map PyData.int)] ∧ ks.length < 100000 ∧ P (.d (dtD ((ks.zip js).foldl (fun acc p => putI acc p.1 p.2) []))) δ1
theorem keys_dp {K : PySem.W.Frag} {G : Hp} : ∀ {ks : List (List Int)} {vs : List V}, DpAll K G vs (ks.map fun k => .tuple (k.map PyData.int)) → ∃ us : List Addr, vs = us.map V.ref ∧ us.length = ks.length ∧ ∀ (i : Nat) (u : Addr) (k : List Key), us[i]? = some u → (ks.map ky)[i]? = some k → G u = some (.tup (k.map kV))
  | [], _, h => by cases h; exact ⟨[], rfl, rfl, fun i u k e => by simp at e⟩
  | k :: ks, _, h => by
    cases h with
    | cons h1 h2 =>
      obtain ⟨u, rfl, e⟩ := dp_key h1
      obtain ⟨us, rfl, l, r⟩ := keys_dp h2
      refine ⟨u :: us, rfl, by simp [l], fun i u' k' e1 e2 => ?_⟩
      cases i with
      | zero => cases e1; cases e2; exact e
      | succ i => exact r i u' k' e1 e2
theorem merge_put : ∀ (l : List (List Int × Int)) (acc : List (List Int × Int)), mergeT (acc.map entT) (l.map entT) = (l.foldl (fun acc p => putI acc p.1 p.2) acc).map entT
  | [], acc => rfl
  | p :: l, acc => by
    show mergeT (putK (acc.map entT) (entT p).1 (entT p).2) (l.map entT) = _
    rw [show putK (acc.map entT) (entT p).1 (entT p).2 = (putI acc p.1 p.2).map entT from put_dt acc p.1 p.2, merge_put l]
    rfl
theorem zip_ent : ∀ (ks : List (List Int)) (js : List Int), (ks.map ky).zip (js.map V.int) = (ks.zip js).map entT
  | [], js => by cases js <;> rfl
  | k :: ks, [] => rfl
  | k :: ks, j :: js => by
    show (ky k, V.int j) :: (ks.map ky).zip (js.map V.int) = _
    rw [zip_ent ks js]; rfl
theorem de_dictZip {ua : WA} (hu : X.A.units + 64 < cLine) (hc : X.calm = true) (hg : Gl X "dict") (hm : X.mg "dict" = none) (hg2 : Gl X "zip") (hm2 : X.mg "zip" = none) (ha : DA X [a, b] ua) (hs : starEach [a, b] X.env = (false, eval a X.env) :: starEach [b] X.env := by rfl) (hs2 : (backTo pos2 (starEach [b] X.env)).any (·.1) = false := by rfl)
    (hz : starEach [.Call (.Name "zip" p2) [a, b] [] pos2] X.env = (false, eval (.Call (.Name "zip" p2) [a, b] [] pos2) X.env) :: starEach [] X.env := by rfl) : DE X (.Call (.Name "dict" p) [.Call (.Name "zip" p2) [a, b] [] pos2] [] pos) (wDZ ua) := by
  refine pe_weak (pe_dictZip hu hc hg hm hg2 hm2 ha hs hs2 hz) fun σ H Q ⟨O, δ, P, R0, w, f⟩ => ?_
  refine ⟨O, δ, _, R0, w, fun rs δ1 vs H1 w1 s1 R1 k1 => ?_⟩
  obtain ⟨w0, ks, js, er, lz, w1⟩ := w1
  have dp := RvsOk.dp R0 R1 k1 w0
  rw [er] at dp
  cases dp with
  | cons h1 h2 =>
    cases h2 with
    | cons h2 h3 =>
      cases h3
      cases h1 with
      | lst sx hx =>
        cases h2 with
        | lst sy hy =>
          obtain ⟨us, rfl, lu, hk⟩ := keys_dp hx
          have e := ints_dp hy (ints_map js)
          subst e
          refine ⟨_, _, us, ks.map ky, _, rfl, sl_mono hid_le sx, sl_mono hid_le sy, by rw [List.length_map, lu], by rw [lu]; exact lz, fun i u k e1 e2 => hid_le _ _ (hk i u k e1 e2), fun D hD => ?_⟩
          rw [zip_ent, show mergeT [] ((ks.zip js).map entT) = _ from merge_put (ks.zip js) []]
          refine f _ _ _ _ w1 (s1.trans (Stp.laid R1 hD)) (R1.laid hD) (.dt ?_)
          rw [hid_no (R1.fresh hD)]; exact upd_same
end
end Dw
namespace Dw
open PySem PySem.Spec PyProof.Rows L2
/-! ### {k: v}, k a tuple of ints -/
section
variable {X : Cx} {kx vx : Expr} {tk tv : TE} {wk wv : WE} {pos : Pos}
def tD1 (tk tv : TE) : TE := fun σ H Q => ∀ D, H D = none → tk σ (upd H D (.dT [])) fun x H1 => tv σ H1 fun y H2 => H2 D = some (.dT []) ∧ ∃ (k : List Key) (b : Addr), x = .ref b ∧ H2 b = some (.tup (k.map kV)) ∧ Q (.ref D) (upd H2 D (.dT [(k, y)]))
theorem pe_disp1 (hu : X.A.units + 64 < cLine) (hk : PE X kx tk) (hv : PE X vx tv) : PE X (.Dict [some kx] [vx] pos) (tD1 tk tv) := by
  refine ⟨fun pins s σ H Q I h => ?_⟩
  have hn := I.hok.fresh (Nat.le_refl s.heap.objs.size)
  have I1 := I.laid (a := s.heap.objs.size) (o := .dT []) (h' := s.heap.push { cls := .type "dict", data := .dict #[] }) (t' := s.toks) (fun _ _ q => Heap.get?_push_of_some _ q) (Nat.le_refl _) (dt_empty s.heap I.big)
  rw [arm_eval_Dict, zip_pairTrees [some kx] [vx] X.env pos rfl rfl, dictDisplay_pairs (pairTrees [some kx] [vx] X.env pos) (by intro z; have := congrArg List.length z; rw [pairTrees_length _ _ _ _ rfl rfl] at this; simp at this) (by rw [pairTrees_length _ _ _ _ rfl rfl]; show 1 < 17; omega)]
  refine wpAny_bind (wpAny_standAt (wpAny_bind ?_))
  refine wpAny_subDictH (knd := tupleKind (mixKind X.prog X.w)) (by show X.A.units < cLine; omega) (by rw [pairTrees_length _ _ _ _ rfl rfl]; show 1 ≤ 15; omega) ?_
  have pp := pps_cons (pos := pos) hk hv pps_nil
  have go := pp.run pins _ σ _ (fun ps H2 => match ps with
    | [(x, y)] => H2 s.heap.objs.size = some (.dT []) ∧ ∃ (k : List Key) (b : Addr), x = .ref b ∧ H2 b = some (.tup (k.map kV)) ∧ Q (.ref s.heap.objs.size) (upd H2 s.heap.objs.size (.dT [(k, y)]))
    | _ => False) I1 (h _ hn)
  refine thn go fun ws s2 ⟨ps, H2, I2, rel, q2⟩ => ?_
  match ps, rel, q2 with
  | [(x, y)], rel, ⟨eD, k, b, ex, eb, q2⟩ =>
    subst ex
    obtain ⟨u, r, rfl, ru, rv⟩ : ∃ u r, ws = [(u, r)] ∧ L2.RelV (.ref b) u ∧ L2.RelV y r := by
      cases rel with
      | cons r1 r2 => cases r2; exact ⟨_, _, rfl, r1.1, r1.2⟩
    cases (show u = Value.ref b from ru)
    obtain ⟨_, low, xs, kt, dd⟩ := dt_of I2.hok eD
    cases kt
    refine ⟨[(k, b, r)], ⟨rfl, rfl, key_of I2.hok eb, trivial⟩, dd, fun h' tk d2 hs => wpAny_pure ⟨.ref s.heap.objs.size, _, ?_, rfl, q2⟩⟩
    obtain ⟨o, es, ep, g1, g2, g3, g4, _, g5⟩ := d2
    refine d_write I2 (by rw [eD]; exact True.intro) hs ⟨o, g1⟩ ⟨by show 1 ≤ sizeLine; rw [sizeLine_eq]; decide, low, [(k, b, r)], .cons ⟨rfl, ?_, rv⟩ .nil, o, es, ep, g1, g2, g3, g4, g5⟩
    rw [upd_ne (ne_of eb eD (fun z => nomatch z))]; exact eb
def wD1 (wk wv : WE) : WE := fun δ P => wk δ fun r δ1 => wv δ1 fun s δ2 => ∃ (ks : List Int) (j : Int), r = .d (.tuple (ks.map PyData.int)) ∧ s = .d (.int j) ∧ P (.d (dtD [(ks, j)])) δ2
theorem de_disp1 (hu : X.A.units + 64 < cLine) (hk : DE X kx wk) (hv : DE X vx wv) : DE X (.Dict [some kx] [vx] pos) (wD1 wk wv) := by
  refine pe_weak (pe_disp1 hu hk hv) fun σ H Q ⟨O, δ, P, R0, w, f⟩ => fun D hD => ?_
  have nO : ¬ O D := R0.fresh hD
  have RD : Rep X.K (fun a => O a ∨ a = D) δ σ (upd H D (.dT [])) := R0.laidO hD
  have noOwn : ¬ Own δ σ D := fun ⟨i, xs, e1, e2⟩ => by
    obtain ⟨a, us, e3, z, _⟩ := R0.lst i xs e1
    rw [e3] at e2; cases e2; exact nO z
  have noM : ¬ OwnM δ σ D := fun ⟨i, xs, e1, e2⟩ => by
    obtain ⟨a, us, e3, z, _⟩ := R0.ex.m i xs e1
    rw [e3] at e2; cases e2; exact nO z
  refine ⟨_, δ, _, RD, w, fun r δ1 v1 H1 w1 s1 R1 k1 => ?_⟩
  refine ⟨_, δ1, _, R1, w1, fun s δ2 v2 H2 w2 s2 R2 k2 => ?_⟩
  obtain ⟨ks, j, rfl, rfl, w2⟩ := w2
  obtain ⟨b, rfl, eb⟩ := dp_key k1
  have k2 : Dp X.K (hid H2 fun a => O a ∨ a = D) v2 (.int j) := k2
  cases k2
  have st := s1.trans s2
  have own2 : ∀ a, Own δ2 σ a → Own δ σ a := fun a z => st.ownI z
  have ownM2 : ∀ a, OwnM δ2 σ a → OwnM δ σ a := fun a ⟨i, kvs, e1, e2⟩ => ⟨i, kvs, st.dct i kvs e1, e2⟩
  have eD : H2 D = some (.dT []) := by rw [st.frame D (.inr rfl) noOwn]; exact upd_same
  refine ⟨eD, ky ks, b, rfl, hid_le _ _ (s2.same _ _ eb), ?_⟩
  have R3 : Rep X.K (fun a => O a ∨ a = D) δ2 σ (upd H2 D (.dT [(ky ks, V.int j)])) := rep_updG R2 (.inr rfl) (fun z => noOwn (own2 D z)) (fun z => noM (ownM2 D z))
  have sm : Same (hid H O) (hid (upd H2 D (.dT [(ky ks, V.int j)])) fun a => O a ∨ a = D) := by
    rw [hid_upd (H := H2) (.inr rfl)]
    exact (newO_up hD).trans st.same
  have sub : Same (hid (upd H2 D (.dT [(ky ks, V.int j)])) fun a => O a ∨ a = D) (hid (upd H2 D (.dT [(ky ks, V.int j)])) O) := hid_sub fun a z => .inl z
  refine f _ _ _ _ w2 ⟨sm.trans sub, fun a oa no => ?_, st.own, st.dat, st.dct⟩ ?_ (.dt ?_)
  · have ne : a ≠ D := fun z => nO (z ▸ oa)
    rw [upd_ne ne, st.frame a (.inl oa) no, upd_ne ne]
  · refine ⟨R3.len, fun i x e => ?_, fun i xs e => ?_, R3.inj, fun a z => R3.occ a (.inl z), ⟨fun i kvs e => ?_, R3.ex.i, fun i ks e => ?_⟩⟩
    · obtain ⟨v, e1, d⟩ := R3.dat i x e
      exact ⟨v, e1, Dp.up d sub⟩
    · obtain ⟨a, us, e1, z, e2, d⟩ := R3.lst i xs e
      exact ⟨a, us, e1, z.resolve_right fun q => noOwn (own2 D ⟨i, xs, e, by rw [← q]; exact e1⟩), e2, DpAll.up d sub⟩
    · obtain ⟨a, us, e1, z, e2, d⟩ := R3.ex.m i kvs e
      exact ⟨a, us, e1, z.resolve_right fun q => noM (ownM2 D ⟨i, kvs, e, by rw [← q]; exact e1⟩), e2, KvOk.up sub d⟩
    · obtain ⟨bb, e1, e2⟩ := R3.ex.k i ks e
      exact ⟨bb, e1, sub _ _ e2⟩
  · rw [hid_no nO]; exact upd_same
end
end Dw

namespace Dw
open PySem PySem.Spec PyProof.Rows L2
section
variable {X : Cx} {tg tg1 iter iter1 e elt : Expr} {we el : WE} {wi wi1 : WI} {pos spos p py : Pos} {ifs ifs1 : List Expr} {scope : Scope} {own : List (Str × Nat)} {js js1 vs1 : List Nat} {b b1 : WB} {t t1 : WT} {y : Str}
theorem ds_setLc2 (i : Nat) (hc : X.calm = true) (hN : X.N.Nodup) (hi : DI X tg iter wi) (ok : BlkOk X.N X.env.scope scope own) (hv : ∀ i ∈ vs1, i ∈ own.map (·.2))
    (hg : ∀ (s : Shared) (H : Hp) (C : Addr) (cl : List (Str × Addr)) (fp : List Addr), DG (X.blk s H scope (compEnvC scope cl C X.env) fp) tg js b) (ht : ∀ (s : Shared) (H : Hp) (C : Addr) (cl : List (Str × Addr)) (fp : List Addr), DTs (X.blk s H scope (compEnvC scope cl C X.env) fp) ifs t)
    (hi1 : ∀ (s : Shared) (H : Hp) (C : Addr) (cl : List (Str × Addr)) (fp : List Addr), DI (X.blk s H scope (compEnvC scope cl C X.env) fp) tg1 iter1 wi1)
    (hg1 : ∀ (s : Shared) (H : Hp) (C : Addr) (cl : List (Str × Addr)) (fp : List Addr), DG (X.blk s H scope (compEnvC scope cl C X.env) fp) tg1 js1 b1) (ht1 : ∀ (s : Shared) (H : Hp) (C : Addr) (cl : List (Str × Addr)) (fp : List Addr), DTs (X.blk s H scope (compEnvC scope cl C X.env) fp) ifs1 t1)
    (he : ∀ (s : Shared) (H : Hp) (C : Addr) (cl : List (Str × Addr)) (fp : List Addr), DE (X.blk s H scope (compEnvC scope cl C X.env) fp) elt el) (h0 : i ≠ 0 := by decide) (hy : X.N[i]? = some y := by rfl) (hyl : X.env.scope.names.lookup y = some .local := by rfl)
    (hsw : swapsWith (.ListComp elt [⟨tg, iter, ifs, 0⟩, ⟨tg1, iter1, ifs1, 0⟩] scope pos) (some (.Name y py)) spos.line X.env = pure true := by exact sw_true rfl rfl rfl (by decide +kernel)) (hjs : ∀ j ∈ js, j ∈ own.map (·.2) := by decide) (hjs1 : ∀ j ∈ js1, j ∈ vs1 := by decide)
    (hs : ∀ x, foldedSetIterable iter X.env x = pure x := by intro _; rfl) (hs1 : ∀ env x, foldedSetIterable iter1 env x = pure x := by intro _ _; rfl) :
    DS X (.Assign [.Name y py] (.ListComp elt [⟨tg, iter, ifs, 0⟩, ⟨tg1, iter1, ifs1, 0⟩] scope pos) spos) (wSet i (wLc2 wi b t wi1 b1 t1 el (own.map (·.2)) vs1)) :=
  ps_weak (ps_setLc2 (wi := liftI X.K wi) (g := liftG X.K js b) (tt := liftT X.K t) (wi1 := liftI X.K wi1) (g1 := liftG X.K js1 b1) (tt1 := liftT X.K t1) (te := lift X.K el) hc hN hy hyl hsw hi ok hv hg ht hi1 hg1 ht1 he hs hs1) fun D σ H q => lift_lc2 hv hjs hjs1 (lift_set h0 q)
theorem ds_setLc2D (i : Nat) (hc : X.calm = true) (hN : X.N.Nodup) (hi : DI X tg iter wi) (ok : BlkOk X.N X.env.scope scope own) (hv : ∀ i ∈ vs1, i ∈ own.map (·.2))
    (hg : ∀ (s : Shared) (H : Hp) (C : Addr) (cl : List (Str × Addr)) (fp : List Addr), DG (X.blk s H scope (compEnvC scope cl C X.env) fp) tg js b) (ht : ∀ (s : Shared) (H : Hp) (C : Addr) (cl : List (Str × Addr)) (fp : List Addr), DTs (X.blk s H scope (compEnvC scope cl C X.env) fp) ifs t)
    (hi1 : ∀ (s : Shared) (H : Hp) (C : Addr) (cl : List (Str × Addr)) (fp : List Addr), DI (X.blk s H scope (compEnvC scope cl C X.env) fp) tg1 iter1 wi1)
    (hg1 : ∀ (s : Shared) (H : Hp) (C : Addr) (cl : List (Str × Addr)) (fp : List Addr), DG (X.blk s H scope (compEnvC scope cl C X.env) fp) tg1 js1 b1) (ht1 : ∀ (s : Shared) (H : Hp) (C : Addr) (cl : List (Str × Addr)) (fp : List Addr), DTs (X.blk s H scope (compEnvC scope cl C X.env) fp) ifs1 t1)
    (he : ∀ (s : Shared) (H : Hp) (C : Addr) (cl : List (Str × Addr)) (fp : List Addr), DE (X.blk s H scope (compEnvC scope cl C X.env) fp) elt el) (h0 : i ≠ 0 := by decide) (hy : X.N[i]? = some y := by rfl) (hyl : X.env.scope.names.lookup y = some .local := by rfl)
    (hsw : swapsWith (.ListComp elt [⟨tg, iter, ifs, 0⟩, ⟨tg1, iter1, ifs1, 0⟩] scope pos) (some (.Name y py)) spos.line X.env = pure true := by exact sw_true rfl rfl rfl (by decide +kernel)) (hjs : ∀ j ∈ js, j ∈ own.map (·.2) := by decide) (hjs1 : ∀ j ∈ js1, j ∈ vs1 := by decide)
    (hs : ∀ x, foldedSetIterable iter X.env x = pure x := by intro _; rfl) (hs1 : ∀ env x, foldedSetIterable iter1 env x = pure x := by intro _ _; rfl) :
    DS X (.Assign [.Name y py] (.ListComp elt [⟨tg, iter, ifs, 0⟩, ⟨tg1, iter1, ifs1, 0⟩] scope pos) spos) (wSetD i (wLc2 wi b t wi1 b1 t1 el (own.map (·.2)) vs1)) :=
  ps_weak (ps_setLc2 (wi := liftI X.K wi) (g := liftG X.K js b) (tt := liftT X.K t) (wi1 := liftI X.K wi1) (g1 := liftG X.K js1 b1) (tt1 := liftT X.K t1) (te := lift X.K el) hc hN hy hyl hsw hi ok hv hg ht hi1 hg1 ht1 he hs hs1) fun D σ H q => lift_lc2 hv hjs hjs1 (lift_setD h0 q)
end
section
variable {X : Cx} {a b : Expr} {ta : TE} {wa wb : WE} {p p2 q pos : Pos}
/-- sorted(set(xs)), xs any list of ints -/
def wSortSetG (w : WE) : WE := fun δ P => w δ fun r δ1 => ∃ ns : List Int, r.as = .list (ns.map PyData.int) ∧ ns.length < 60 ∧ ∀ ms : List Int, ms.Pairwise (· < ·) → (∀ k : Int, k ∈ ms ↔ k ∈ ns) → P (.l (ms.map PyData.int)) δ1
theorem de_sortedSetG (hc : X.calm = true) (hg : Gl X "sorted") (hm : X.mg "sorted" = none) (hg2 : Gl X "set") (hm2 : X.mg "set" = none) (ha : DE X a wa) (na : starEach [a] X.env = (false, eval a X.env) :: starEach [] X.env := by rfl) :
    DE X (.Call (.Name "sorted" p) [.Call (.Name "set" p2) [a] [] q] [] pos) (wSortSetG wa) := by
  refine pe_weak (pe_sortSet hc hg hm hg2 hm2 ha na) fun σ H Q ⟨O, δ, P, R0, w, f⟩ => ?_
  refine ⟨O, δ, _, R0, w, fun r δ1 v H1 w1 s1 R1 k1 => ?_⟩
  obtain ⟨ns, er, few, w1⟩ := w1
  have dq := held0 R0 k1 R1
  rw [er] at dq
  obtain ⟨l, xs, rfl, sq, dx⟩ := dq.lst hid_le
  have ev := ints_dp dx (ints_map ns)
  subst ev
  exact ⟨l, ns, rfl, sq, few, fun ms b m1 m2 hb => (fin_of R0 s1 R1 f).2.1 _ _ b (w1 ms m1 m2) (dp_ints ms) hb⟩
end
section
variable {X : Cx} {a b : Expr} {wa wb : WE} {pos : Pos}
/-- (..) * k -/
def rRepTD : R2D := fun d e P => match d, e with
  | .tuple xs, .int k => (xs ≠ [] ∧ 2 ≤ k ∧ k ≤ 1000 ∧ xs.length ≤ 1000) ∧ P (.d (.tuple (List.replicate k.toNat xs).flatten))
  | _, _ => False
theorem da_rep {K : PySem.W.Frag} {G : Hp} {vs : List V} {ds : List PyData} (h : DpAll K G vs ds) : ∀ n : Nat, DpAll K G (List.replicate n vs).flatten (List.replicate n ds).flatten
  | 0 => .nil
  | n + 1 => by
    rw [List.replicate_succ, List.replicate_succ, List.flatten_cons, List.flatten_cons]
    exact da_app h (da_rep h n)
theorem de_tmul (ha : DE X a wa) (hb : DE X b wb) : DE X (.BinOp a .Mult b pos) (w2 rRepTD wa wb) := de_op op_repT (by
  intro G H x y d e P Q hx hy s r f
  unfold rRepTD at r
  split at r
  · rename_i xs k
    obtain ⟨⟨h1, h2, h3, h4⟩, r⟩ := r
    obtain ⟨l, vs, rfl, hq, ha⟩ := hx.tup s
    have ll := da_len ha
    refine ⟨l, k, vs, rfl, hy.int, hq, fun z => h1 ?_, h2, h3, by rw [ll]; exact h4, fun p hp => f.2.2 _ _ p r (da_rep ha k.toNat) hp⟩
    subst z
    cases ha
    rfl
  · exact r.elim) ha hb
end
end Dw

namespace Dw
open PySem PySem.Spec PyProof.Rows L2
/-! sorted of pairs of ints -/
section
variable {X : Cx} {e : Expr} {ua : WA} {p pos : Pos}
abbrev twoD (x : Int × Int) : PyData := .tuple [.int x.1, .int x.2]
def keyP (H : Hp) : V → Int × Int
  | .ref t => match H t with
    | some (.tup [.int i, .int j]) => (i, j)
    | _ => (0, 0)
  | _ => (0, 0)
def rSortedPD : RCD := fun ds P => match ds with
  | [.list xs] => ∃ ps : List (Int × Int), xs = ps.map twoD ∧ ∀ qs : List (Int × Int), qs.Perm ps → qs.Pairwise (fun a b => a.1 < b.1 ∨ (a.1 = b.1 ∧ a.2 ≤ b.2)) → P (.l (qs.map twoD))
  | _ => False
theorem dp_two {K : PySem.W.Frag} {G H : Hp} (s : Same G H) {v : V} {x : Int × Int} (h : Dp K G v (twoD x)) : ∃ t, v = .ref t ∧ H t = some (.tup [.int x.1, .int x.2]) ∧ keyP H v = x := by
  cases h with
  | tup h1 h2 =>
    rename_i a xs
    cases h2 with
    | cons a1 h2 =>
      cases h2 with
      | cons a2 h2 =>
        cases h2
        cases a1
        cases a2
        have h1 := s _ _ h1
        refine ⟨a, rfl, h1, ?_⟩
        simp only [keyP, h1]
theorem das_two {K : PySem.W.Frag} {G H : Hp} (s : Same G H) : ∀ {vs : List V} {ps : List (Int × Int)}, DpAll K G vs (ps.map twoD) → (∀ v ∈ vs, Dp K G v (twoD (keyP H v)) ∧ ∃ t, v = .ref t ∧ H t = some (.tup [.int (keyP H v).1, .int (keyP H v).2])) ∧ vs.map (keyP H) = ps
  | [], [], _ => ⟨fun v hv => absurd hv (by simp), rfl⟩
  | [], _ :: _, h => nomatch h
  | _ :: _, [], h => nomatch h
  | v :: vs, x :: ps, h => by
    cases h with
    | cons h1 h2 =>
      obtain ⟨i1, i2⟩ := das_two s h2
      obtain ⟨t, e1, e2, e3⟩ := dp_two s h1
      refine ⟨fun u hu => ?_, by rw [List.map_cons, i2, e3]⟩
      rcases List.mem_cons.mp hu with rfl | hu
      · rw [e3]
        exact ⟨h1, t, e1, e2⟩
      · exact i1 u hu
theorem das_back {K : PySem.W.Frag} {G H : Hp} : ∀ {vs : List V}, (∀ v ∈ vs, Dp K G v (twoD (keyP H v))) → DpAll K G vs ((vs.map (keyP H)).map twoD)
  | [], _ => .nil
  | v :: vs, h => .cons (h v List.mem_cons_self) (das_back fun u hu => h u (List.mem_cons_of_mem _ hu))
theorem cd_sortedP {K : PySem.W.Frag} : CallD K (rSortedPO K) rSortedPD := by
  intro G H xs ds P Q h s r f
  unfold rSortedPD at r
  split at r
  · obtain ⟨ps, rfl, r⟩ := r
    obtain ⟨v, rfl, hd⟩ := dq1 h
    obtain ⟨a, ys, rfl, h1, h2⟩ := hd.lst s
    obtain ⟨i1, i2⟩ := das_two s h2
    refine ⟨a, ys, keyP H, rfl, h1, fun x hx => (i1 x hx).2, fun zs p hs hb hn => ?_⟩
    have pm := hb.perm
    refine f.2.1 ((zs.map (keyP H)).map twoD) _ p (r (zs.map (keyP H)) ?_ ?_) (das_back fun v hv => (i1 v (pm.mem_iff.mp hv)).1) hn
    · rw [← i2]
      exact pm.map _
    · refine List.pairwise_map.mpr (List.Pairwise.imp (fun {x y} q => ?_) hs)
      have := SrtO.lexB_no.mp q
      omega
  · exact r.elim
theorem de_sortedP (hg : Gl X "sorted") (hm : X.mg "sorted" = none) (ha : DA X [e] ua) (he : starEach [e] X.env = (false, eval e X.env) :: starEach [] X.env := by rfl) : DE X (.Call (.Name "sorted" p) [e] [] pos) (wCB rSortedPD ua) :=
  de_cb cr_sortedPO cd_sortedP hg hm (by decide +kernel) ha (he := he)
end
end Dw

namespace Dw
open PySem PySem.Spec PyProof.Rows L2
/-! a call whose owned first argument is a new list -/
section
variable {K : PySem.W.Frag} {O O2 O3 : Addr → Prop} {δ : Dl} {σ : L2.St} {H H' : Hp}
theorem Rep.over (R : Rep K O2 δ σ H) (s : Same (hid H O2) (hid H' O3)) (lo : ∀ (i : Nat) xs a, δ[i]? = some (Sl.o xs) → σ[i]? = some (some (V.ref a)) → O3 a ∧ H' a = H a) (mo : ∀ (i : Nat) xs a, δ[i]? = some (Sl.m xs) → σ[i]? = some (some (V.ref a)) → O3 a ∧ H' a = H a)
    (occ : ∀ a, O3 a → ∃ o, H' a = some o) : Rep K O3 δ σ H' := by
  refine ⟨R.len, fun i x e => ?_, fun i xs e => ?_, R.inj, occ, ⟨fun i kvs e => ?_, R.ex.i, fun i ks e => ?_⟩⟩
  · obtain ⟨v, e1, d⟩ := R.dat i x e
    exact ⟨v, e1, Dp.up d s⟩
  · obtain ⟨a, vs, e1, _, e2, d⟩ := R.lst i xs e
    obtain ⟨z, f⟩ := lo i xs a e e1
    exact ⟨a, vs, e1, z, by rw [f]; exact e2, DpAll.up d s⟩
  · obtain ⟨a, us, e1, _, e2, d⟩ := R.ex.m i kvs e
    obtain ⟨z, f⟩ := mo i kvs a e e1
    exact ⟨a, us, e1, z, by rw [f]; exact e2, KvOk.up s d⟩
  · obtain ⟨b, e1, e2⟩ := R.ex.k i ks e
    exact ⟨b, e1, s b _ e2⟩
theorem rep_argsP {xs : List PyData} {a : Addr} {us : List V} (R : Rep K O δ σ H) (oa : O a) (e : H a = some (.lst us)) (d : DpAll K (hid H O) us xs) {vs : List V} {ds : List PyData} (h : DpAll K (hid H O) vs ds) :
    Rep K O (.o xs :: ds.map Sl.d) (some (.ref a) :: vs.map some) H := by
  have R' := rep_args R h
  refine ⟨by rw [List.length_cons, List.length_cons, R'.len], fun j x q => ?_, fun j zs q => ?_, fun j k zs ws b q1 q2 q3 q4 => ?_, R.occ, .none fun j s q => ?_⟩
  · cases j with
    | zero => cases q
    | succ j => exact R'.dat j x q
  · cases j with
    | zero =>
      cases q
      exact ⟨a, us, rfl, oa, e, d⟩
    | succ j => exact R'.lst j zs q
  · cases j with
    | zero =>
      cases k with
      | zero => rfl
      | succ k => exact absurd ⟨k, ws, q2, q4⟩ no_own
    | succ j => exact absurd ⟨j, zs, q1, q3⟩ no_own
  · cases j with
    | zero => cases q; rfl
    | succ j =>
      have q : (ds.map Sl.d)[j]? = some s := q
      rw [List.getElem?_map] at q
      cases w : ds[j]? with
      | none => rw [w] at q; cases q
      | some d => rw [w] at q; cases q; rfl
end
def endL (δ1 : Dl) (P : Rv → Dl → Prop) : Rv → Dl → Prop := fun r δc => match δc with
  | .o _ :: _ => (match r with | .b _ _ => False | _ => P r δ1)
  | _ => False
def wCallL (S : WE) (wa : WE) (u : WA) : WE := fun δ P => wa δ fun r δ1 => match r with
  | .l xs => u δ1 fun rs δ2 => rs.all noB = true ∧ S (.o xs :: rs.map fun r => .d r.as) (endL δ2 P)
  | _ => False
section
variable {X : Cx} {e : Expr} {es : List Expr} {we : WE} {ua : WA} {pos p : Pos} {x : Str} {f : Addr} {fd : FuncData} {ps : List Str} {k : Nat} {S : WE}
theorem de_callL (F : FnG X.prog X.w X.K X.mg X.base CX0 k f fd ps (spOf X.K S)) (g0 : X.A.guards = some []) (room : Room k X.A) (hg : Gl X x) (hm : X.mg x = some (.ref f)) (hk : PySem.W.keepIn X.K (.ref f) = true) (hb : Binds X.K fd ps []) (ha : DE X e we) (hr : DA X es ua)
    (hdb : (x == ("__debug__" : Str)) = false := by decide) (he : starEach (e :: es) X.env = (false, eval e X.env) :: starEach es X.env := by rfl) (hpl : (backTo pos (starEach es X.env)).any (·.1) = false := by rfl) :
    DE X (.Call (.Name x p) (e :: es) [] pos) (wCallL S we ua) := by
  refine pe_weak (pe_callG F g0 room hg hm hk hb (pass0 (X := X)) (pa_cons ha hr he) hdb he hpl) fun σ H Q ⟨O, δ, P, R0, w, g⟩ => ?_
  refine ⟨O, δ, _, R0, w, fun r1 δ1 v1 H1 w1 s1 R1 k1 => ?_⟩
  cases r1 with
  | d _ => exact w1.elim
  | b _ _ => exact w1.elim
  | l xs =>
    obtain ⟨q, us, rfl, n0, e1, ha1, R1'⟩ := k1
    refine ⟨fun a => O a ∨ a = q, δ1, _, R1', w1, fun rs δ2 vs H2 w2 s2 R2 k2 => ?_⟩
    obtain ⟨w0, w2⟩ := w2
    have nq : ¬ O q := R0.fresh n0
    have ow1 : ∀ (i : Nat) ys a, δ1[i]? = some (Sl.o ys) → σ[i]? = some (some (V.ref a)) → O a := fun i ys a z1 z2 => by
      obtain ⟨a', _, z3, z4, _⟩ := R1.lst i ys z1
      rw [z2] at z3; cases z3; exact z4
    have ow2 : ∀ (i : Nat) ys a, δ2[i]? = some (Sl.o ys) → σ[i]? = some (some (V.ref a)) → O a := fun i ys a z1 z2 => by
      obtain ⟨ys', z1⟩ := (s2.own i).mp ⟨ys, z1⟩
      exact ow1 i ys' a z1 z2
    have om2 : ∀ (i : Nat) ys a, δ2[i]? = some (Sl.m ys) → σ[i]? = some (some (V.ref a)) → O a := fun i ys a z1 z2 => by
      obtain ⟨a', _, z3, z4, _⟩ := R1.ex.m i ys (s2.dct i ys z1)
      rw [z2] at z3; cases z3; exact z4
    have e2 : H2 q = some (.lst us) := by
      rw [s2.frame q (.inr rfl) fun ⟨i, ys, z1, z2⟩ => nq (ow1 i ys q z1 z2)]
      exact e1
    have hR := rep_argsP R2 (.inr rfl) e2 (DpAll.up ha1 s2.same) (RvsOk.dp R1' R2 k2 w0)
    rw [List.map_map] at hR
    refine ⟨fun a => O a ∨ a = q, _, _, hR, w2, fun r δ' v H' w3 s3 R3 k3 => ?_⟩
    unfold endL at w3
    split at w3
    · have fr : ∀ a, O a → H' a = H2 a := fun a oa => s3.frame a (.inl oa) (by
        rintro ⟨j, zs, q1, q2⟩
        cases j with
        | zero => cases q2; exact nq oa
        | succ j =>
          have := no_own (ds := rs.map Rv.as) (σ := vs.map some) (a := a)
          rw [List.map_map] at this
          exact this ⟨j, zs, q1, q2⟩)
      have dn : Same (hid H' fun a => O a ∨ a = q) (hid H' O) := fun b x e => by
        obtain ⟨nb, e⟩ := hid_some e
        rw [hid_no fun z => nb (.inl z)]; exact e
      have occ0 : ∀ a, O a → ∃ o, H' a = some o := fun a oa => by
        rw [fr a oa]
        exact R2.occ a (.inl oa)
      have RO : Rep X.K O δ2 σ H' := R2.over (s3.same.trans dn) (fun i ys a z1 z2 => ⟨ow2 i ys a z1 z2, fr a (ow2 i ys a z1 z2)⟩) (fun i ys a z1 z2 => ⟨om2 i ys a z1 z2, fr a (om2 i ys a z1 z2)⟩) occ0
      have st : Stp O δ δ2 σ H H' := by
        refine ⟨fun b x e => ?_, fun a oa na => ?_, fun i => (s2.own i).trans (s1.own i), fun i x => (s2.dat i x).trans (s1.dat i x), fun i x z => s1.dct i x (s2.dct i x z)⟩
        · obtain ⟨nb, e'⟩ := hid_some e
          have ne : b ≠ q := ne_of_none e' n0
          obtain ⟨_, e3⟩ := hid_some (s1.same b x e)
          refine dn b x (s3.same b x (s2.same b x ?_))
          rw [hid_no (fun z => z.elim nb ne)]; exact e3
        · rw [fr a oa, s2.frame a (.inl oa) (fun z => na (s1.ownI z)), s1.frame a oa na]
      cases r with
      | b i xs => exact w3.elim
      | d x => exact g _ _ _ _ w3 st RO (Dp.up k3 dn)
      | l zs =>
        obtain ⟨p2, us2, q1, n, q2, ha3, hr3⟩ := k3
        have dn2 : Same (hid H' fun a => (O a ∨ a = q) ∨ a = p2) (hid H' fun a => O a ∨ a = p2) := fun b x e => by
          obtain ⟨nb, e⟩ := hid_some e
          rw [hid_no fun z => nb (z.elim (fun z => .inl (.inl z)) .inr)]; exact e
        have hn : H p2 = none := by
          have nO : ¬ (O p2 ∨ p2 = q) := R2.fresh n
          cases z : H p2 with
          | none => rfl
          | some o =>
            have nb : ¬ O p2 := fun y => nO (.inl y)
            obtain ⟨_, e3⟩ := hid_some (s1.same p2 o (by rw [hid_no nb]; exact z))
            have := s2.same p2 o (by rw [hid_no nO]; exact e3)
            rw [hid_no nO, n] at this; cases this
        refine g _ _ _ _ w3 st RO ⟨p2, us2, q1, hn, q2, DpAll.up ha3 dn2, ?_⟩
        refine R2.over ((same_hide s3.same n).trans dn2) (fun i ys a z1 z2 => ⟨.inl (ow2 i ys a z1 z2), fr a (ow2 i ys a z1 z2)⟩) (fun i ys a z1 z2 => ⟨.inl (om2 i ys a z1 z2), fr a (om2 i ys a z1 z2)⟩) fun a z => ?_
        rcases z with z | z
        · exact occ0 a z
        · rw [z]; exact ⟨_, q2⟩
    · exact w3.elim
theorem de_callLF (F : Fn X.prog X.w X.K X.mg X.base k x S) (g0 : X.A.guards = some []) (room : Room k X.A) (hg : Gl X x) (ha : DE X e we) (hr : DA X es ua)
    (hdb : (x == ("__debug__" : Str)) = false := by decide) (he : starEach (e :: es) X.env = (false, eval e X.env) :: starEach es X.env := by rfl) (hpl : (backTo pos (starEach es X.env)).any (·.1) = false := by rfl) :
    DE X (.Call (.Name x p) (e :: es) [] pos) (wCallL S we ua) := by
  obtain ⟨a, fd, ps, h1, h2, h3, h4⟩ := F.ex
  exact de_callL h4 g0 room hg h1 h2 h3 ha hr hdb he hpl
end
end Dw
namespace Dw
open PySem PySem.Spec PyProof.Rows L2
/-! a call that reads owned lists and gives a number, a truth, a text or nothing -/
def scalD : PyData → Bool
  | .none => true
  | .bool _ => true
  | .int _ => true
  | .str _ => true
  | _ => false
theorem scal_dp {K : PySem.W.Frag} {G G' : Hp} {v : V} {x : PyData} (h : Dp K G v x) (s : scalD x = true) : Dp K G' v x := by
  cases h with
  | non => exact .non
  | bl b => exact .bl b
  | int i => exact .int i
  | str x => exact .str x
  | lst _ _ => cases s
  | tup _ _ => cases s
  | dk _ => cases s
  | dt _ => cases s
  | e0 _ => cases s
def wCallS (S : WE) (u : WA) : WE := fun δ P => u δ fun rs δ1 => stillAll rs δ1 (S (rs.map fun r => .d r.as) fun r _ => match r with
  | .d x => scalD x = true ∧ P (.d x) δ1
  | _ => False)
theorem dqs_dp {K : PySem.W.Frag} {G H : Hp} (s : Same G H) : ∀ {vs : List V} {ds : List PyData}, DqAll K G H vs ds → DpAll K H vs ds
  | _, _, .nil => .nil
  | _, _, .cons h t => .cons (h.dp s) (dqs_dp s t)
theorem hid_none {H : Hp} : hid H (fun _ => False) = H := by
  funext a
  exact hid_no fun z => z
section
variable {X : Cx} {e : Expr} {es : List Expr} {ua : WA} {pos p : Pos} {x : Str} {f : Addr} {fd : FuncData} {ps : List Str} {k : Nat} {S : WE}
theorem de_callS (F : FnG X.prog X.w X.K X.mg X.base CX0 k f fd ps (spOf X.K S)) (g0 : X.A.guards = some []) (room : Room k X.A) (hg : Gl X x) (hm : X.mg x = some (.ref f)) (hk : PySem.W.keepIn X.K (.ref f) = true) (hb : Binds X.K fd ps []) (ha : DA X (e :: es) ua)
    (hdb : (x == ("__debug__" : Str)) = false := by decide) (he : starEach (e :: es) X.env = (false, eval e X.env) :: starEach es X.env := by rfl) (hpl : (backTo pos (starEach es X.env)).any (·.1) = false := by rfl) :
    DE X (.Call (.Name x p) (e :: es) [] pos) (wCallS S ua) := by
  refine pe_weak (pe_callG F g0 room hg hm hk hb (pass0 (X := X)) ha hdb he hpl) fun σ H Q ⟨O, δ, P, R0, w, g⟩ => ?_
  refine ⟨O, δ, _, R0, w, fun rs δ1 vs H1 w1 s1 R1 k1 => ?_⟩
  obtain ⟨dq, w1⟩ := RvsOk.dq R0 R1 k1 w1
  have ha : DpAll X.K (hid H1 fun _ => False) vs (rs.map Rv.as) := by
    rw [hid_none]
    exact dqs_dp hid_le dq
  have R' : Rep X.K (fun _ => False) [] [] H1 := ⟨rfl, fun i x e => by simp at e, fun i x e => by simp at e, fun i j _ _ _ e => by simp at e, fun _ z => z.elim, .none fun i s e => by simp at e⟩
  have hR := rep_args R' ha
  rw [List.map_map] at hR
  refine ⟨fun _ => False, _, _, hR, w1, fun r δ' v H' w2 s2 R2 k2 => ?_⟩
  have sm : ∀ b o, H1 b = some o → H' b = some o := fun b o e => by
    have := s2.same b o (by rw [hid_none]; exact e)
    rw [hid_none] at this
    exact this
  have fr : ∀ a, O a → H' a = H1 a := fun a oa => by
    obtain ⟨o, e⟩ := R1.occ a oa
    rw [e]
    exact sm a o e
  have ss : Same (hid H1 O) (hid H' O) := fun b o e => by
    obtain ⟨nb, e⟩ := hid_some e
    rw [hid_no nb]
    exact sm b o e
  have st : Stp O δ1 δ1 σ H1 H' := ⟨ss, fun a z _ => fr a z, fun _ => Iff.rfl, fun _ _ => Iff.rfl, fun _ _ z => z⟩
  cases r with
  | b i xs => exact w2.elim
  | l xs => exact w2.elim
  | d x => exact g _ _ _ _ w2.2 (s1.trans st) (R1.mv ss fr) (scal_dp k2 w2.1)
theorem de_callSF (F : Fn X.prog X.w X.K X.mg X.base k x S) (g0 : X.A.guards = some []) (room : Room k X.A) (hg : Gl X x) (ha : DA X (e :: es) ua)
    (hdb : (x == ("__debug__" : Str)) = false := by decide) (he : starEach (e :: es) X.env = (false, eval e X.env) :: starEach es X.env := by rfl) (hpl : (backTo pos (starEach es X.env)).any (·.1) = false := by rfl) :
    DE X (.Call (.Name x p) (e :: es) [] pos) (wCallS S ua) := by
  obtain ⟨a, fd, ps, h1, h2, h3, h4⟩ := F.ex
  exact de_callS h4 g0 room hg h1 h2 h3 ha hdb he hpl
end
end Dw
namespace Dw
open PySem PySem.Spec PyProof.Rows L2
/-! a, b = a new list -/
def bLst (n : Nat) (bs : WBs) : WB := fun x δ P => match x with
  | .list xs => xs.length = n ∧ bs xs δ P
  | _ => False
def wAsgL (w : WE) (b : WB) : WS := fun P δ => w δ fun r δ1 => match r with
  | .l xs => b (.list xs) δ1 P.nx
  | _ => False
section
variable {X : Cx} {tg e : Expr} {pos : Pos} {es : List Expr} {js : List Nat} {b : WB} {bs : WBs} {we : WE}
theorem dg_lst {k n : Nat} (hc : X.calm = true) (h : DGs X es js bs) (hn : (assignEach es X.env).length = n := by rfl) (hst : (assignEach es X.env).findIdx? (·.1) = none := by rfl) : DG X (.Tuple es k pos) js (bLst n bs) := by
  refine pg_weak (pg_lst hc h hn hst) fun v σ H Q ⟨O, δ, x, P, R, d, w, f⟩ => ?_
  cases x <;> first | exact False.elim w | skip
  obtain ⟨a, xs, e1, e2, ha⟩ := Dq.lst hid_le (.inl d)
  exact ⟨a, xs, e1, e2, by rw [da_len ha]; exact w.1, O, δ, _, P, R, ha, w.2, f⟩
theorem ds_asgL (h : DE X e we) (hg : DG X tg js b) (h0 : 0 ∉ js := by decide) (hs : swapsWithSole [tg] e pos.line X.env = pure false := by rfl) (hw : swappedStores [tg] e X.env = pure none := by rfl)
    (h1 : (assignEach [tg] X.env).map (·.2) = [assign tg X.env] := by rfl) : DS X (.Assign [tg] e pos) (wAsgL we b) := by
  refine ps_weak (ps_asg h hg hs hw h1) fun D σ H ⟨O, δ, P, R, w, E⟩ => ?_
  refine ⟨O, δ, _, R, w, fun r δ1 v H1 w1 s1 R1 k1 => ?_⟩
  cases r with
  | d x => exact w1.elim
  | b i xs => exact w1.elim
  | l xs => exact ⟨O, δ1, .list xs, _, R1, rv_dp R k1 rfl, w1, fun δ2 σ2 w2 bd R2 => E.nx _ _ _ _ w2 (s1.tr.trans R R1 (bd.tr h0)) R2⟩
end
end Dw

namespace Dw
open PySem PySem.Spec PyProof.Rows L2
/-! a def whose last parameter has the empty tuple as its default; len and list of such -/
theorem dp_e0 {K : PySem.W.Frag} {G : Hp} {v : V} (h : Dp K G v e0D) : ∃ a, v = .ref a ∧ SqT K G a [] := by
  generalize e : e0D = d at h
  cases h with
  | e0 h => exact ⟨_, rfl, h⟩
  | _ => exact absurd e (by simp)
def rLenED : RCD := fun ds P => match ds with
  | [.list xs] => P (.d (.int xs.length))
  | [.tuple xs] => P (.d (.int xs.length))
  | [.dict kvs] => kvs = [(.none, .int 2)] ∧ P (.d (.int 0))
  | _ => False
theorem cd_lenE {K : PySem.W.Frag} : CallD K (fun xs H Q => ∃ p ys, xs = [.ref p] ∧ (SqL K H p ys ∨ SqT K H p ys) ∧ Q (.int ys.length) H) rLenED := by
  intro G H xs ds P Q h s r f
  unfold rLenED at r
  split at r
  · obtain ⟨v, rfl, hd⟩ := dq1 h
    obtain ⟨a, ys, rfl, h1, h2⟩ := hd.lst s
    exact ⟨a, ys, rfl, .inl h1, f.1 _ _ r (by rw [da_len h2]; exact .int _)⟩
  · obtain ⟨v, rfl, hd⟩ := dq1 h
    obtain ⟨a, ys, rfl, h1, h2⟩ := hd.tup s
    exact ⟨a, ys, rfl, .inr h1, f.1 _ _ r (by rw [da_len h2]; exact .int _)⟩
  · obtain ⟨v, rfl, hd⟩ := dq1 h
    obtain ⟨rfl, r⟩ := r
    rcases hd with hd | ⟨_, _, _, _, q, _⟩
    · obtain ⟨a, rfl, h1⟩ := dp_e0 hd
      exact ⟨a, [], rfl, .inr (st_mono s h1), f.1 _ _ r (.int _)⟩
    · cases q
  · exact r.elim
def rListED : RCD := fun ds P => match ds with
  | [.list xs] => P (.l xs)
  | [.tuple xs] => P (.l xs)
  | [.dict kvs] => kvs = [(.none, .int 2)] ∧ P (.l [])
  | _ => False
theorem cd_listE {K : PySem.W.Frag} : CallD K (fun xs H Q => ∃ p ys, xs = [.ref p] ∧ (SqL K H p ys ∨ SqT K H p ys) ∧ ∀ l, H l = none → Q (.ref l) (upd H l (.lst ys))) rListED := by
  intro G H xs ds P Q h s r f
  unfold rListED at r
  split at r
  · obtain ⟨v, rfl, hd⟩ := dq1 h
    obtain ⟨a, ys, rfl, h1, h2⟩ := hd.lst s
    exact ⟨a, ys, rfl, .inl h1, fun l hl => f.2.1 _ _ l r h2 hl⟩
  · obtain ⟨v, rfl, hd⟩ := dq1 h
    obtain ⟨a, ys, rfl, h1, h2⟩ := hd.tup s
    exact ⟨a, ys, rfl, .inr h1, fun l hl => f.2.1 _ _ l r h2 hl⟩
  · obtain ⟨v, rfl, hd⟩ := dq1 h
    obtain ⟨rfl, r⟩ := r
    rcases hd with hd | ⟨_, _, _, _, q, _⟩
    · obtain ⟨a, rfl, h1⟩ := dp_e0 hd
      exact ⟨a, [], rfl, .inr (st_mono s h1), fun l hl => f.2.1 _ _ l r .nil hl⟩
    · cases q
  · exact r.elim
section
variable {X : Cx} {e : Expr} {es : List Expr} {ua : WA} {pos p : Pos} {x : Str}
theorem de_lenE (hg : Gl X "len") (hm : X.mg "len" = none) (ha : DA X [e] ua) (he : starEach [e] X.env = (false, eval e X.env) :: starEach [] X.env := by rfl) : DE X (.Call (.Name "len" p) [e] [] pos) (wCB rLenED ua) :=
  de_cb call_len_seq cd_lenE hg hm PySem.boot_len ha (he := he)
theorem de_listE (hg : Gl X "list") (hm : X.mg "list" = none) (ha : DA X [e] ua) (he : starEach [e] X.env = (false, eval e X.env) :: starEach [] X.env := by rfl) : DE X (.Call (.Name "list" p) [e] [] pos) (wCB rListED ua) :=
  de_cty call_list_of cd_listE hg hm (by decide +kernel) ha (he := he)
end
structure FnE (P : Program) (w : World) (K : PySem.W.Frag) (mg : Str → Option Value) (base : Heap) (k : Nat) (x : Str) (S : WE) : Prop where
  ex : ∃ (a : Addr) (fd : FuncData) (ps : List Str) (T : Addr), mg x = some (.ref a) ∧ PySem.W.keepIn K (.ref a) = true ∧ (∀ H, SqT K H T []) ∧ Binds K fd ps [.ref T] ∧ FnG P w K mg base CX0 k a fd ps (spOf K S)
section
variable {X : Cx} {CX : CXT} {k : Nat} {f T : Addr} {fd : FuncData} {ps : List Str} {sp : Sp} {E : XK} {x : Str} {p pos : Pos} {e : Expr} {es : List Expr} {t : TA}
theorem runGE {pins : List (Addr × Obj)} {σ : L2.St} {G : Hp} {s : Shared} {Q : VK} {us : List Value} {ys : List V} (F : FnG X.prog X.w X.K X.mg X.base CX k f fd ps sp) (g0 : X.A.guards = some []) (room : Room k X.A) (hb : Binds X.K fd ps [.ref T]) (hx : Passes CX X E)
    (I : Inv X pins σ G s) (r : Vals ys us) (q : sp (ys ++ [.ref T]) G Q E) : wpAny (model X.prog X.w) X.A (call (.ref f) us) (EP X pins σ Q) X.xe s := by
  have r2 : Vals (ys ++ [.ref T]) (us ++ [.ref T]) := r.append (.cons rfl .nil)
  have hl : (us ++ [Value.ref T]).length = ps.length := by rw [← r2.length]; exact F.len _ _ _ _ q
  have bt := hb s us I.kIn hl
  refine wpAny_call (codeAny_mono (F.run X.A X.stack s G ⟨us, []⟩ (us ++ [.ref T]) (ys ++ [.ref T]) Q E g0 room I.env0 bt r2 q) fun res s' hq => ?_)
  cases res with
  | error er => exact hx pins σ G s er s' I hq
  | ok fl => cases fl <;> first | exact I.after hq | exact False.elim hq
theorem pe_callGE (F : FnG X.prog X.w X.K X.mg X.base CX k f fd ps sp) (g0 : X.A.guards = some []) (room : Room k X.A) (hg : Gl X x) (hm : X.mg x = some (.ref f)) (hk : PySem.W.keepIn X.K (.ref f) = true) (hb : Binds X.K fd ps [.ref T]) (hx : Passes CX X E)
    (ha : PA X (e :: es) t) (hdb : (x == ("__debug__" : Str)) = false := by decide) (he : starEach (e :: es) X.env = (false, eval e X.env) :: starEach es X.env := by rfl) (hpl : (backTo pos (starEach es X.env)).any (·.1) = false := by rfl) :
    PE X (.Call (.Name x p) (e :: es) [] pos) (fun σ G Q => t σ G fun ys G1 => sp (ys ++ [.ref T]) G1 Q E) := by
  refine ⟨fun pins s σ G Q I q => wpAny_Call_Name_kw (ld_glob I hg hm ?_ hdb)⟩
  exact PySem.W.callWith_K (h₀ := X.base) I.ok.mod.kin hk (thn (ha.run pos pins s σ G _ I q) fun us s1 ⟨ys, G1, I1, r, q1⟩ => ⟨I1.kIn, runGE F g0 room hb hx I1 r q1⟩) he hpl
end
def wCallE (S : WE) (u : WA) : WE := fun δ P => u δ fun rs δ1 => rs.all noB = true ∧ S ((rs.map fun r => .d r.as) ++ [.d e0D]) fun r _ => (match r with | .b _ _ => False | _ => P r δ1)
section
variable {X : Cx} {e : Expr} {es : List Expr} {ua : WA} {pos p : Pos} {x : Str} {k : Nat} {S : WE}
theorem de_callEF (F : FnE X.prog X.w X.K X.mg X.base k x S) (g0 : X.A.guards = some []) (room : Room k X.A) (hg : Gl X x) (ha : DA X (e :: es) ua)
    (hdb : (x == ("__debug__" : Str)) = false := by decide) (he : starEach (e :: es) X.env = (false, eval e X.env) :: starEach es X.env := by rfl) (hpl : (backTo pos (starEach es X.env)).any (·.1) = false := by rfl) :
    DE X (.Call (.Name x p) (e :: es) [] pos) (wCallE S ua) := by
  obtain ⟨f, fd, ps, T, hm, hk, hT, hb, F⟩ := F.ex
  refine pe_weak (pe_callGE F g0 room hg hm hk hb (pass0 (X := X)) ha hdb he hpl) fun σ H Q ⟨O, δ, P, R0, w, g⟩ => ?_
  refine ⟨O, δ, _, R0, w, fun rs δ1 vs H1 w1 s1 R1 k1 => ?_⟩
  obtain ⟨w0, w1⟩ := w1
  have ha := da_app (RvsOk.dp R0 R1 k1 w0) (.cons (.e0 (hT _)) .nil : DpAll X.K (hid H1 O) [.ref T] [e0D])
  have hR := rep_args R1 ha
  have ee : (rs.map Rv.as ++ [e0D]).map Sl.d = (rs.map fun r => Sl.d r.as) ++ [.d e0D] := by rw [List.map_append, List.map_map]; rfl
  have hR' := hR
  rw [ee] at hR'
  refine ⟨O, _, _, hR', w1, fun r δ' v H' w2 s2 R2 k2 => ?_⟩
  have fr : ∀ a, O a → H' a = H1 a := fun a z => s2.frame a z (by
    have := no_own (ds := rs.map Rv.as ++ [e0D]) (σ := (vs ++ [V.ref T]).map some) (a := a)
    rw [ee] at this
    exact this)
  have st : Stp O δ1 δ1 σ H1 H' := ⟨s2.same, fun a z _ => fr a z, fun _ => Iff.rfl, fun _ _ => Iff.rfl, fun _ _ z => z⟩
  cases r with
  | b i xs => exact w2.elim
  | d x => exact g _ _ _ _ w2 (s1.trans st) (R1.mv s2.same fr) k2
  | l xs =>
    obtain ⟨p, us, e1, n, e, ha, hr⟩ := k2
    refine g _ _ _ _ w2 (s1.trans st) (R1.mv s2.same fr) (RvOk.back R0 R1 s1 ⟨p, us, e1, n, e, ha, R1.mvO (fun a z => .inl z) (same_hide s2.same n) fr hr.occ⟩)
end
/-! ### such a def -/
def FunE (K : PySem.W.Frag) (x : Str) (st : Stmt) (T : Addr) (f : Addr) (fd : FuncData) : Prop := FunD K x x (defArgs st) (defBody st) (defScope st) [.ref T] [] f fd
theorem fnG_ofE {P : Program} {w : World} {K : PySem.W.Frag} {mg : Str → Option Value} {base : Heap} {x : Str} {st : Stmt} {f T : Addr} {fd : FuncData} {N ps : List Str} {k : Nat} {sp : Sp} (F : FunE K x st T f fd) (S : FnScope N ps (defScope st)) (len : ∀ ys G Q E, sp ys G Q E → ys.length = ps.length)
    (hbody : ∀ (cdv : Value) (A : Around) (outer : List Env) (s : Shared) (G : Hp) (ys : List V) (Q : VK) (E : XK), A.guards = some [] → Room k (A.deeper (envOfC x (defScope st) s.heap.objs.size f cdv)) → sp ys G Q E →
      ∃ t, PSs (cxOf CX0 P w K mg base N x (defScope st) f cdv A outer s G E).nox (defBody st) t ∧ t { nx := fun _ G' => Q .non G', rt := Q } (start N ys) G) : FnG P w K mg base CX0 (k + 1) f fd ps sp := by
  obtain ⟨oc, od, dV, kV, doc, pm, an, cdv, ct, osl, rfl, lk, hcd, _, _⟩ := F.ex
  refine ⟨len, fun A outer s G args us ys Q E g0 room e0 hb r pr => ?_⟩
  have ll := len _ _ _ _ pr
  have kin : K.In s.heap := e0.mod.kin.keeps fun b o e => (e0.bs b o e).1
  have nol : s.heap.NoLimit := e0.mod.nolimit.keeps fun b o e => (e0.bs b o e).1
  have kinds : ∀ y ∈ ps.zip us, (defScope st).names.lookup y.1 = some .local ∨ ((defScope st).names.lookup y.1 = some .cell ∧ ((cellsFrom (s.heap.objs.size + 1) (defScope st).names []).lookup y.1).isSome = true) := by
    rintro ⟨n, v⟩ hy
    have hp := S.par n (List.of_mem_zip hy).1
    exact hp.imp id fun q => ⟨q, PySem.W.cellsFrom_some _ _ _ (.inl q)⟩
  refine codeAny_call_function room.depth (kin _ _ lk) rfl S.co S.gen rfl (PySem.W.codeRec_of kin hcd) (hb _ _ _ _ ?_)
  refine wpAny_newFunctionEnv_cells S.kind kinds fun env ee s1 y => ?_
  subst ee
  refine ⟨nol.keeps y.toInCall.keep, codeAny_func ?_⟩
  obtain ⟨t, ht, hq⟩ := hbody cdv A outer s G ys Q E g0 (room.deeper _) pr
  have I : Inv (cxOf CX0 P w K mg base N x (defScope st) f cdv A outer s G E) [] (start N ys) G s1 := inv_start S room.hd e0 ll r y
  refine wpAny_mono (ht.nox.run [] s1 (start N ys) G _ I hq) (fun fl s' hs => ?_) fun _ _ z => z
  have done : ∀ {τ : L2.St} {G' : Hp} {v : V} {u : Value}, Inv (cxOf CX0 P w K mg base N x (defScope st) f cdv A outer s G E) [] τ G' s' → RelV v u → Q v G' → CE outer P w G s Q u s' :=
    fun J rv q => ⟨_, _, J.os, J.bare, J.base, J.hok, rv, q⟩
  cases fl with
  | ret u => obtain ⟨v, τ, G', J, rv, q⟩ := hs; exact done J rv q
  | next => obtain ⟨τ, G', J, q⟩ := hs; exact done (v := V.non) (u := Value.none) J rfl q
  | brk => obtain ⟨τ, G', J, q⟩ := hs; exact q.elim
  | cont => obtain ⟨τ, G', J, q⟩ := hs; exact q.elim
theorem fnDE {P : Program} {w : World} {K : PySem.W.Frag} {mg : Str → Option Value} {base : Heap} {x : Str} {st : Stmt} {f T : Addr} {fd : FuncData} {N ps : List Str} {k : Nat} {S : WE} {wb : WS} (F : FunE K x st T f fd) (Sc : FnScope N ps (defScope st)) (hN : ps.length ≤ N.length)
    (hS : ∀ δ P, S δ P → ArgOk ps.length δ ∧ wb (endsOf δ P) (δ ++ List.replicate (N.length - ps.length) Sl.un))
    (hbody : ∀ (cdv : Value) (A : Around) (outer : List Env) (s : Shared) (G : Hp) (E : XK), A.guards = some [] → Room k (A.deeper (envOfC x (defScope st) s.heap.objs.size f cdv)) → DSs (cxOf CX0 P w K mg base N x (defScope st) f cdv A outer s G E).nox (defBody st) wb) :
    FnG P w K mg base CX0 (k + 1) f fd ps (spOf K S) := by
  have len : ∀ ys G Q E, spOf K S ys G Q E → ys.length = ps.length := fun ys G Q E ⟨O, δ, P, R, hs, _⟩ => by
    have := R.len
    rw [List.length_map] at this
    rw [← this]
    exact (hS δ P hs).1.1
  refine fnG_ofE F Sc len fun cdv A outer s G ys Q E g0 room pr => ⟨_, hbody cdv A outer s G E g0 room, ?_⟩
  have ly := len _ _ _ _ pr
  obtain ⟨O, δ, Pd, R, hs, f⟩ := pr
  obtain ⟨ao, hw⟩ := hS δ Pd hs
  obtain ⟨R2, En, _⟩ := start_ok (N := N) ly R ao f
  exact ⟨O, _, _, R2, hw, En⟩
/-- where such a def of the text stands behind the top -/
def DefInE (K : PySem.W.Frag) (x : Str) (st : Stmt) : Prop := ∃ (f : Addr) (oc : Value) (od : Option Addr) (D T : Addr) (kV dc pm : Value) (an : Option Addr) (cd ct : Value) (sl : Array (Option Value)) (o1 o0 : Obj) (n1 n0 : Nat),
  PySem.W.nsIn K mainGlobals x = some (some (.ref f)) ∧ K.lookup f = some ⟨oc, od, .func (PySem.W.fnOf x x (defArgs st) (defBody st) (defScope st) (.ref D) kV dc pm an cd ct), sl⟩ ∧ PySem.W.codeIn K cd x = true ∧ PySem.W.keepIn K (.ref f) = true ∧
  K.lookup D = some o1 ∧ o1.data = .seq #[.ref T] n1 ∧ K.lookup T = some o0 ∧ o0.cls = .type "tuple" ∧ o0.data = .seq #[] n0
theorem def_inE {K : PySem.W.Frag} {x : Str} {st : Stmt} {f : Addr} {oc : Value} {od : Option Addr} {D T : Addr} {kV dc pm : Value} {an : Option Addr} {cd ct : Value} {sl : Array (Option Value)} {c1 c0 : Value} {d1 d0 : Option Addr} {s1 s0 : Array (Option Value)} {n1 n0 : Nat} (a : PySem.W.nsIn K mainGlobals x = some (some (.ref f)))
    (l : K.lookup f = some ⟨oc, od, .func (PySem.W.fnOf x x (defArgs st) (defBody st) (defScope st) (.ref D) kV dc pm an cd ct), sl⟩) (c : PySem.W.codeIn K cd x = true) (k : PySem.W.keepIn K (.ref f) = true)
    (e1 : K.lookup D = some ⟨c1, d1, .seq #[.ref T] n1, s1⟩) (e0 : K.lookup T = some ⟨.type "tuple", d0, .seq #[] n0, s0⟩) : DefInE K x st := ⟨f, oc, od, D, T, kV, dc, pm, an, cd, ct, sl, _, _, n1, n0, a, l, c, k, e1, rfl, e0, rfl, rfl⟩
theorem fn_inE {P : Program} {w : World} {K : PySem.W.Frag} {mg : Str → Option Value} {base h : Heap} {x : Str} {st : Stmt} {ps : List Str} {S : WE} {k : Nat} (X : K.In h) (G : h.Ns mainGlobals mg) (d : DefInE K x st)
    (h2 : ∀ (D : Addr) (kV doc pm : Value) (an : Option Addr) (cdv ct : Value) (us its : List Value), us.length + 1 = ps.length → its.length = 1 →
      ∃ k, bindArgs (PySem.W.fnOf x x (defArgs st) (defBody st) (defScope st) (.ref D) kV doc pm an cdv ct) ⟨us, []⟩ = seqItems? (.ref D) >>= k ∧ k (some its.toArray) = pure (ps.zip (us ++ its.drop 0)))
    (h3 : ∀ (D : Addr) (kV doc pm : Value) (an : Option Addr) (cdv ct : Value) (us its : List Value), us.length = ps.length → its.length = 1 →
      ∃ k, bindArgs (PySem.W.fnOf x x (defArgs st) (defBody st) (defScope st) (.ref D) kV doc pm an cdv ct) ⟨us, []⟩ = seqItems? (.ref D) >>= k ∧ k (some its.toArray) = pure (ps.zip (us ++ its.drop 1)))
    (hp : 1 ≤ ps.length) (ok : ∀ {f T : Addr} {fd : FuncData}, FunE K x st T f fd → FnG P w K mg base CX0 k f fd ps (spOf K S)) : Fn P w K mg base k x S ∧ FnE P w K mg base k x S := by
  obtain ⟨f, oc, od, D, T, kV, dc, pm, an, cd, ct, sl, o1, o0, n1, n0, a, l, c, kp, lD, dD, lT, cT, dT⟩ := d
  have F : FunE K x st T f (PySem.W.fnOf x x (defArgs st) (defBody st) (defScope st) (.ref D) kV dc pm an cd ct) :=
    ⟨⟨oc, od, .ref D, kV, dc, pm, an, cd, ct, sl, rfl, l, c, .inr ⟨by simp, D, o1, [.ref T], n1, rfl, lD, dD, .cons rfl .nil⟩, .inl rfl⟩, kp⟩
  refine ⟨⟨f, _, ps, PySem.W.mg_of X G a, kp, ?_, ok F⟩, ⟨f, _, ps, T, PySem.W.mg_of X G a, kp, fun H => .inr ⟨o0, #[], n0, lT, cT, dT, Nat.zero_le _, .nil⟩, ?_, ok F⟩⟩
  · obtain ⟨ds, hv, hb⟩ := FunD.binds1 F ps.length 1 (by simp) (by simp) fun D kV doc pm an cdv ct us its h1 h4 => h3 D kV doc pm an cdv ct us its h1 h4
    have : ds = [] := by cases hv; rfl
    rw [this] at hb
    exact hb
  · obtain ⟨ds, hv, hb⟩ := FunD.binds1 F (ps.length - 1) 0 (by simp) (by simp; omega) fun D kV doc pm an cdv ct us its h1 h4 => h2 D kV doc pm an cdv ct us its (by omega) h4
    have : ds = [.ref T] := by
      cases hv with
      | cons h1 h2 => cases h2; rw [show _ = Value.ref T from h1]
    rw [this] at hb
    exact hb
end Dw

/-! sorted of lists, and of sets, of tuples of ints: any length of the list -/
namespace SrtT
open PySem PyProof.Rows Srt
/-- tuples of ints, as they are ordered -/
def ltL : List Int → List Int → Bool
  | _, [] => false
  | [], _ :: _ => true
  | x :: xs, y :: ys => if x = y then ltL xs ys else decide (x < y)
theorem ltL_cons (x y : Int) (xs ys : List Int) : ltL (x :: xs) (y :: ys) = if x = y then ltL xs ys else decide (x < y) := by
  rw [ltL]
theorem ltL_nil (a : List Int) : ltL a [] = false := by cases a <;> rw [ltL]
theorem ltL_asym : ∀ a b, ltL a b = true → ltL b a = false
  | [], [], _ => ltL_nil _
  | [], _ :: _, _ => ltL_nil _
  | _ :: _, [], h => by rw [ltL_nil] at h; cases h
  | x :: xs, y :: ys, h => by
    rw [ltL_cons] at h ⊢
    by_cases e : x = y
    · rw [if_pos e] at h
      rw [if_pos e.symm]
      exact ltL_asym xs ys h
    · rw [if_neg e, decide_eq_true_eq] at h
      rw [if_neg fun z => e z.symm, decide_eq_false_iff_not]
      omega
theorem ltL_tr : ∀ a b c, ltL b a = false → ltL c b = false → ltL c a = false
  | [], b, c, _, _ => ltL_nil _
  | x :: xs, [], c, h, _ => by rw [ltL] at h; cases h
  | x :: xs, y :: ys, [], _, h => by rw [ltL] at h; cases h
  | x :: xs, y :: ys, z :: zs, h1, h2 => by
    rw [ltL_cons] at h1 h2 ⊢
    by_cases e1 : y = x
    · rw [if_pos e1] at h1
      by_cases e2 : z = y
      · rw [if_pos e2] at h2
        rw [if_pos (e2.trans e1)]
        exact ltL_tr xs ys zs h1 h2
      · rw [if_neg e2, decide_eq_false_iff_not] at h2
        rw [if_neg (by omega), decide_eq_false_iff_not]
        omega
    · rw [if_neg e1, decide_eq_false_iff_not] at h1
      by_cases e2 : z = y
      · rw [if_neg (by omega), decide_eq_false_iff_not]
        omega
      · rw [if_neg e2, decide_eq_false_iff_not] at h2
        rw [if_neg (by omega), decide_eq_false_iff_not]
        omega
/-- neither below the other: the same -/
theorem ltL_eq : ∀ a b, ltL a b = false → ltL b a = false → a = b
  | [], [], _, _ => rfl
  | [], _ :: _, h, _ => by rw [ltL] at h; cases h
  | _ :: _, [], _, h => by rw [ltL] at h; cases h
  | x :: xs, y :: ys, h1, h2 => by
    rw [ltL_cons] at h1 h2
    by_cases e : x = y
    · rw [if_pos e] at h1
      rw [if_pos e.symm] at h2
      rw [e, ltL_eq xs ys h1 h2]
    · rw [if_neg e, decide_eq_false_iff_not] at h1
      rw [if_neg fun z => e z.symm, decide_eq_false_iff_not] at h2
      omega
theorem ltL_swo {α : Type} (k : α → List Int) : SrtO.Swo fun v u => ltL (k v) (k u) := ⟨fun x y => ltL_asym _ _, fun x y z => ltL_tr _ _ _⟩
def katL (fin : Bool) : List Int → List Int → Bool
  | x :: xs, y :: ys => if x = y then katL fin xs ys else decide (x < y)
  | _, _ => fin
theorem katL_eq : ∀ (xs ys : List Int), katL (decide (xs.length < ys.length)) xs ys = ltL xs ys
  | [], [] => by rw [katL, ltL]; rfl; simp
  | [], _ :: _ => by rw [katL, ltL] <;> simp
  | _ :: _, [] => by rw [katL, ltL] <;> simp
  | x :: xs, y :: ys => by
    rw [katL, ltL, ← katL_eq xs ys]
    simp only [List.length_cons, Nat.add_lt_add_iff_right]
section
variable {prog : Program} {w : World} {A : Around} {E : Value → Shared → Prop} {s : Shared}
theorem kat_ints {fin : Bool} {Q : Bool → Shared → Prop} : ∀ (xs ys : List Int) (us vs : List Value) (i : Nat), L2.Vals (xs.map L2.V.int) us → L2.Vals (ys.map L2.V.int) vs → Q (katL fin xs ys) s → PySem.W.KatLex prog w A true fin Q (us.zip vs) i s
  | [], ys, us, vs, i, h1, h2, h => by
    cases h1
    exact PySem.W.kat_nil h
  | x :: xs, [], us, vs, i, h1, h2, h => by
    cases h2
    rw [List.zip_nil_right]
    exact PySem.W.kat_nil h
  | x :: xs, y :: ys, us, vs, i, h1, h2, h => by
    cases h1 with
    | cons a1 b1 =>
      cases h2 with
      | cons a2 b2 =>
        obtain ⟨t, rfl⟩ := a1
        obtain ⟨t', rfl⟩ := a2
        rw [List.zip_cons_cons]
        rw [katL] at h
        refine PySem.W.kat_cons (SeqAt.EqAt.int_int x t y t' prog w _ _ ?_)
        refine PySem.W.kat_go (fun e1 => ?_) (fun e1 => ?_)
        · have ex : x = y := by simpa using e1
          rw [if_pos ex] at h
          exact PySem.W.kat_yes (kat_ints xs ys _ _ (i + 1) b1 b2 h)
        · have ex : ¬ x = y := by simpa using e1
          rw [if_neg ex] at h
          exact PySem.W.kat_no (TS.oneLt_ints _ h)
/-- the tuple v has the ints ns -/
def IsTI (h : Heap) (v : Value) (ns : List Int) : Prop := ∃ (a : Addr) (o : Obj) (its : Array Value) (n : Nat), v = .ref a ∧ h.get? a = some o ∧ o.cls = .type "tuple" ∧ o.data = .seq its n ∧ L2.Vals (ns.map L2.V.int) its.toList
theorem IsTI.keeps {h h' : Heap} {v : Value} {ns : List Int} (x : IsTI h v ns) (k : ∀ b o, h.get? b = some o → o.cls = .type "tuple" → h'.get? b = some o) : IsTI h' v ns := by
  obtain ⟨a, o, its, n, e, ho, hc, hd, hv⟩ := x
  exact ⟨a, o, its, n, e, k _ _ ho hc, hc, hd, hv⟩
theorem tup_cmp {vs : List Value} {k : Value → List Int} (hp : ∀ v ∈ vs, IsTI s.heap v (k v)) : SrtO.Cmp prog w A s (tuples' true) (fun p => p.1 ∈ vs) (SrtO.lt2 fun v u => ltL (k v) (k u)) := by
  intro p q hm hm'
  have h1 := hp _ hm
  have h2 := hp _ hm'
  show wpAny (model prog w) A (keyLt' (tuples' true) p.1 q.1) (fun r s' => s' = s ∧ r = ltL (k p.1) (k q.1)) (fun _ _ => False) s
  generalize k p.1 = x at h1 ⊢
  generalize k q.1 = y at h2 ⊢
  obtain ⟨a, o, its, n, e, ho, hc, hd, hv⟩ := h1
  obtain ⟨a', o', its', n', e', ho', hc', hd', hv'⟩ := h2
  rw [e, e']
  refine PySem.W.kat_lt ho hd ho' hd' (kat_ints x y _ _ 0 hv hv' ⟨rfl, ?_⟩)
  have l1 : x.length = its.size := by simpa using hv.length
  have l2 : y.length = its'.size := by simpa using hv'.length
  rw [← l1, ← l2]
  exact katL_eq x y
theorem firsts_of {h : Heap} {k : Value → List Int} : ∀ {vs : List Value}, (∀ v ∈ vs, IsTI h v (k v) ∧ k v ≠ []) → ∃ fs : List Value, PySem.W.KatTups h vs fs ∧ fs.length = vs.length ∧ ∀ f ∈ fs, ∃ x t, f = Value.int x t
  | [], _ => ⟨[], PySem.W.KatTups.nil, rfl, fun _ hm => by simp at hm⟩
  | v :: vs, hp => by
    obtain ⟨fs, h1, h2, h3⟩ := firsts_of (vs := vs) fun v' hm => hp v' (List.mem_cons_of_mem _ hm)
    obtain ⟨⟨a, o, its, n, e, ho, hc, hd, hv⟩, ne⟩ := hp v (List.mem_cons_self ..)
    generalize k v = ks at hv ne
    cases ks with
    | nil => exact absurd rfl ne
    | cons x xs =>
      subst e
      rcases e2 : its.toList with _ | ⟨u, us⟩
      · rw [e2] at hv; cases hv
      · rw [e2] at hv
        cases hv with
        | cons a1 b1 =>
          obtain ⟨t, rfl⟩ := a1
          have e3 : its[0]? = some (Value.int x t) := by
            rw [← Array.getElem?_toList, e2]; rfl
          refine ⟨.int x t :: fs, PySem.W.KatTups.cons ho hc hd e3 h1, by rw [List.length_cons, List.length_cons, h2], fun f hm => ?_⟩
          rcases List.mem_cons.mp hm with rfl | hm
          · exact ⟨x, t, rfl⟩
          · exact h3 f hm
theorem tups_sortableO {a : Addr} {vs : List Value} {k : Value → List Int} (h0 : 0 < vs.length) (hp : ∀ v ∈ vs, IsTI s.heap v (k v) ∧ k v ≠ []) (ha : ∀ o, s.heap.get? a = some o → o.cls ≠ .type "tuple") : SrtO.SortableO prog w A s a vs fun v u => ltL (k v) (k u) := by
  intro h' keep
  have hp' : ∀ v ∈ vs, IsTI h' v (k v) ∧ k v ≠ [] := fun v hm => ⟨(hp v hm).1.keeps fun b o e c => keep b o (fun z => by subst z; exact ha o e c) e, (hp v hm).2⟩
  obtain ⟨fs, h1, h2, h3⟩ := firsts_of hp'
  refine ⟨tuples' true, fun Q E hq => ?_, tup_cmp fun v hv => (hp' v hv).1⟩
  refine PySem.W.kat_kind (T := .type "int") h1 (by omega) (fun f hm => ?_) (by rfl) ?_
  · obtain ⟨x, t, rfl⟩ := h3 f hm
    exact PySem.W.Looks.now
  · have e : (Value.type "int" != Value.type "tuple") = true := by first | decide +kernel | rfl | decide
    rw [e]
    exact hq
/-- sorted(l) of tuples of ints, any number of them -/
theorem sorted_tupsO {l : Addr} {vs : List Value} {k : Value → List Int} {Q : Value → Shared → Prop} (hl : s.heap.IsList l vs.toArray) (hz : vs.length ≤ sizeLine) (hp : ∀ v ∈ vs, IsTI s.heap v (k v)) (hne : 2 ≤ vs.length → ∀ v ∈ vs, k v ≠ [])
    (h : ∀ (h' : Heap) (d : Addr) (out : List Value), SrtO.Srtd (fun v u => ltL (k v) (k u)) out → SrtO.Stb (fun v u => ltL (k v) (k u)) out vs → (∀ b o, s.heap.get? b = some o → h'.get? b = some o) → s.heap.objs.size ≤ d → (∃ n, h'.get? d = some (seqObj "list" out.toArray n)) → Q (.ref d) { s with heap := h' }) :
    wpAny (model prog w) A (call (.builtin "sorted") [.ref l]) Q E s := by
  refine SrtO.sorted_ord (ltL_swo k) hl hz (fun h2 h₁ a ha kk => ?_) fun out hs hb => ?_
  · refine tups_sortableO (s := { s with heap := h₁ }) (by omega) (fun v hm => ⟨(hp v hm).keeps fun b o e _ => (kk b o e).2, hne h2 v hm⟩) fun o e => ?_
    have e' : some o = some (seqObj "list" vs.toArray 0) := e.symm.trans ha
    cases e'
    intro c
    exact absurd (Value.type.inj c) (by decide)
  · exact h _ _ out hs hb (fun b o e => sortedAll_old e) (Nat.le_succ _) (sortedAll_at s.heap vs out.toArray)
end
end SrtT
namespace L2
open PySem PySem.Spec PyProof.Rows SrtT
section
variable {P : Program} {w : World} {A : Around} {E : Value → Shared → Prop} {s : Shared}
theorem isTI_of {h : Heap} {k : List Int} {b : Addr} (x : IsT P w h k b) : IsTI h (.ref b) k := by
  obtain ⟨o, items, n, ho, hc, hd, hi⟩ := x
  exact ⟨b, o, items, n, rfl, ho, hc, hd, vals_ints (ints_of_items hi)⟩
theorem sorted_setO {a : Addr} {L : List (Addr × List Int)} {es : Array (Int × Value)} {ep : Nat} {t : SetTable} {Q : Value → Shared → Prop} (R : SetTR P w s.heap a L es ep t) (hh : A.handled = none)
    (hne : 2 ≤ L.length → ∀ p ∈ L, p.2 ≠ [])
    (hQ : ∀ s' p (out : Array Value) (c : Nat) (L' : List (Addr × List Int)), (∀ b o, s.heap.get? b = some o → s'.heap.get? b = some o) → s'.gens = s.gens → s'.os = s.os → s.heap.objs.size ≤ p →
      s'.heap.get? p = some (seqObj "list" out c) → out.toList = L'.map (fun q => Value.ref q.1) → L'.Perm L → L'.Pairwise (fun q r => ltL r.2 q.2 = false) → Q (.ref p) s') :
    wpAny (model P w) A (call (.builtin "sorted") [.ref a]) Q E s := by
  obtain ⟨o, ho, hex, hd⟩ := R.ob
  have hsz := R.size
  have hfew := R.few
  refine Calls.call_function_entry kind_sorted plain_sorted entry_sorted (args_sorted1 _) ?_
  unfold Builtin.«sorted»
  refine wpAny_bind (m := checkCount "sorted" 1 1 _) (wpAny_pure ?_)
  refine wpAny_bind (collect_set (A := A.in1) hh ⟨o, ho, hex.1, hd⟩ R.fits (by unfold scanBound; omega) R.tab.ris R.led fun s1 vs k1 hz g1 o1 pm => ?_)
  have hes : es.toList.map (·.2) = L.map fun q => Value.ref q.1 := by
    rw [R.rows]
    unfold rowsOf
    rw [List.map_map] <;> rfl
  rw [hes] at pm
  have ord : ∀ vs : List Value, (∀ v ∈ vs, ∃ q ∈ L, v = Value.ref q.1) → ∃ L1 : List (Addr × List Int), vs = L1.map (fun q => Value.ref q.1) ∧ ∀ q ∈ L1, q ∈ L := by
    intro vs
    induction vs with
    | nil => intro _; exact ⟨[], rfl, fun q hq => (by cases hq)⟩
    | cons v vs ih =>
      intro hv
      obtain ⟨q, hq, e⟩ := hv v List.mem_cons_self
      obtain ⟨L1, e1, hs⟩ := ih fun u hu => hv u (List.mem_cons_of_mem _ hu)
      refine ⟨q :: L1, by rw [List.map_cons, e, e1], fun r hr => ?_⟩
      rcases List.mem_cons.mp hr with z | z
      · rw [z]; exact hq
      · exact hs r z
  have one : ∀ q ∈ L, ∀ r ∈ L, q.1 = r.1 → q = r := fun q hq r hr e => by
    have a1 := R.tup q hq
    have a2 := R.tup r hr
    rw [e] at a1
    have e2 : q.2 = r.2 := a1.inj a2
    exact Prod.ext e e2
  have perm_of : ∀ L1 : List (Addr × List Int), (∀ q ∈ L1, q ∈ L) → (L1.map (fun q => Value.ref q.1)).Perm (L.map fun q => Value.ref q.1) → L1.Perm L := by
    intro L1 hs pm1
    have nL : L.Nodup := nodup_of_map R.nd
    have nref : (L.map fun q => Value.ref q.1).Nodup := by
      refine List.pairwise_map.mpr (List.Pairwise.imp_of_mem (fun {q r} hq hr hne e => ?_) nL)
      injection e with e
      exact hne (one q hq r hr e)
    have n1 : L1.Nodup := nodup_of_map (pm1.nodup_iff.mpr nref)
    refine (List.perm_ext_iff_of_nodup n1 nL).mpr fun q => ⟨hs q, fun hq => ?_⟩
    have hm : Value.ref q.1 ∈ L1.map (fun q => Value.ref q.1) := pm1.mem_iff.mpr (List.mem_map.mpr ⟨q, hq, rfl⟩)
    obtain ⟨r, hr, e⟩ := List.mem_map.mp hm
    injection e with e
    rw [← one r (hs r hr) q hq e]
    exact hr
  have hvL : vs.length = L.length := by rw [pm.length_eq, List.length_map]
  have hvl : vs.length < 64 := by rw [hvL]; exact hfew
  have hz2 : vs.length ≤ sizeLine := by rw [sizeLine_eq]; omega
  refine wpAny_bind (wpAny_newList ?_ (by rw [sizeLine_eq]; omega))
  have hoL : (s1.heap.push (seqObj "list" vs.toArray 0)).get? s1.heap.objs.size = some (seqObj "list" vs.toArray 0) := Heap.get?_push_size _ rfl
  have tk0 : ∀ q ∈ L, IsT P w (s1.heap.push (seqObj "list" vs.toArray 0)) q.2 q.1 := fun q hq => isT_keep (R.tup q hq) fun b u e => Heap.get?_push_of_some _ (k1 b u e)
  have ki : ∀ q ∈ L, TS.intsOf (s1.heap.push (seqObj "list" vs.toArray 0)) (.ref q.1) = q.2 := fun q hq => (tupInts_of (P := P) (w := w) (tk0 q hq)).ints
  have x : ∀ v ∈ vs, IsTI (s1.heap.push (seqObj "list" vs.toArray 0)) v (TS.intsOf (s1.heap.push (seqObj "list" vs.toArray 0)) v) ∧ ∃ q ∈ L, v = Value.ref q.1 := fun v hv => by
    obtain ⟨q, hq, e⟩ := List.mem_map.mp (pm.mem_iff.mp hv)
    rw [← e, ki q hq]
    exact ⟨isTI_of (tk0 q hq), q, hq, rfl⟩
  refine wpAny_bind (wpAny_holding (wpAny_call_entry (s := { s1 with heap := s1.heap.push (seqObj "list" vs.toArray 0) }) slot_list_sort ⟨_, hoL, rfl⟩ entry_list_sort (SrtO.list_sort_ord (s := { s1 with heap := s1.heap.push (seqObj "list" vs.toArray 0) }) (ltL_swo (TS.intsOf (s1.heap.push (seqObj "list" vs.toArray 0)))) hoL hz2 (fun h2 => ?_) fun out a2 a1 => ⟨_, rfl, ?_⟩) (args_list_sort _)))
  · refine tups_sortableO (s := { s1 with heap := s1.heap.push (seqObj "list" vs.toArray 0) }) (by omega) (fun v hv => ⟨(x v hv).1, ?_⟩) fun o e => ?_
    · obtain ⟨_, q, hq, e⟩ := x v hv
      rw [e, ki q hq]
      exact hne (by omega) q hq
    · have e' : some o = some (seqObj "list" vs.toArray 0) := e.symm.trans hoL
      cases e'
      intro c
      exact absurd (Value.type.inj c) (by decide)
  obtain ⟨c, hc⟩ := sortedHeap_at (vs := vs) (out := out.toArray) hoL
  obtain ⟨L', e', hs'⟩ := ord out fun v hv => by
    obtain ⟨q, hq, e⟩ := List.mem_map.mp (pm.mem_iff.mp (a1.perm.mem_iff.mp hv))
    exact ⟨q, hq, e.symm⟩
  have pL : L'.Perm L := perm_of L' hs' (by rw [← e']; exact a1.perm.trans pm)
  have pw : L'.Pairwise (fun q r => ltL r.2 q.2 = false) := by
    rw [e'] at a2
    refine List.Pairwise.imp_of_mem (fun {q r} hq hr hle => ?_) (List.pairwise_map.mp a2)
    rw [← ki q (hs' q hq), ← ki r (hs' r hr)]
    exact hle
  refine wpAny_pure ⟨_, rfl, hQ _ s1.heap.objs.size out.toArray c L' (fun b u e => ?_) g1 o1 hz hc (by simpa using e') pL pw⟩
  have q := k1 b u e
  have hlt := Heap.lt_size q
  show (sortedHeap (s1.heap.push (seqObj "list" vs.toArray 0)) s1.heap.objs.size vs out.toArray).get? b = some u
  rw [sortedHeap_old (Nat.ne_of_lt hlt) (by rw [size_push']; exact Nat.lt_succ_of_lt hlt)]
  exact Heap.get?_push_of_some _ q
end
section
variable {X : Cx}
/-- sorted(set), the set of tuples of ints -/
def rSortedTO (K : PySem.W.Frag) (P : Program) (w : World) : List V → Hp → VK → Prop := fun vs H Q => ∃ (a : Addr) (L : List (Addr × List Int)), vs = [V.ref a] ∧ H a = some (SetTO P w a L) ∧ (∀ p ∈ L, SqT K H p.1 (p.2.map V.int)) ∧
  ((L.map (·.2)).Nodup → 2 ≤ L.length → ∀ p ∈ L, p.2 ≠ []) ∧
  ∀ (L' : List (Addr × List Int)) (p : Addr), L'.Perm L → (L'.map (·.2)).Nodup → L'.length < 64 → L'.Pairwise (fun q r => ltL r.2 q.2 = false) → H p = none → Q (.ref p) (upd H p (.lst (L'.map fun q => V.ref q.1)))
theorem cr_sortedTO (hc : X.calm = true) : CallR X (.builtin "sorted") (rSortedTO X.K X.prog X.w) := by
  intro pins s σ H vs us Q I r h
  obtain ⟨a, L, rfl, ha, hk, hne, q⟩ := h
  have R0 : SetT0 X.prog X.w s.heap a L := (I.hok a _ ha).1
  obtain ⟨es, ep, t, R⟩ := R0.full fun p hp => I.isT (hk p hp)
  rw [Vals.ref1 r]
  refine sorted_setO R (I.ok.hd hc) (hne R.nd) fun s' p out c L' k g o hp hg hout pm pw => ?_
  have hfew : L'.length < 64 := by rw [pm.length_eq]; exact R.few
  have hlen : (L'.map fun q => V.ref q.1).length ≤ sizeLine := by rw [List.length_map, sizeLine_eq]; omega
  have hn : H p = none := I.hok.fresh hp
  have hv : Vals (L'.map fun q => V.ref q.1) out.toList := by rw [hout]; exact vals_of_refs L'
  have J : Inv X pins σ (upd H p (.lst (L'.map fun q => V.ref q.1))) { s with heap := s'.heap, gens := s'.gens, drawn := s'.drawn, toks := s'.toks } :=
    I.call (ch := []) (Un.laid k hp hn) (I.hok.laid k hp ⟨hlen, out.toList, c, hv, hg⟩) (by rw [g]; exact I.bare) (fun _ z => nomatch z)
  have e : s' = { s with heap := s'.heap, gens := s'.gens, drawn := s'.drawn, toks := s'.toks } := by
    cases s'
    cases s
    cases o
    rfl
  rw [e]
  exact ⟨.ref p, _, J, rfl, q L' p pm ((pm.map (·.2)).nodup_iff.mpr R.nd) hfew pw hn⟩
/-- sorted(xs), xs a list of tuples of ints of any length -/
def rSortedLO (K : PySem.W.Frag) : List V → Hp → VK → Prop := fun vs H Q => ∃ (a : Addr) (xs : List V) (k : V → List Int), vs = [V.ref a] ∧ SqL K H a xs ∧ (∀ x ∈ xs, ∃ t, x = V.ref t ∧ SqT K H t ((k x).map V.int)) ∧ (2 ≤ xs.length → ∀ x ∈ xs, k x ≠ []) ∧
  ∀ ys p, SrtO.Srtd (fun x y => ltL (k x) (k y)) ys → SrtO.Stb (fun x y => ltL (k x) (k y)) ys xs → H p = none → Q (.ref p) (upd H p (.lst ys))
theorem cr_sortedLO : CallR X (.builtin "sorted") (rSortedLO X.K) := by
  intro pins s σ H vs us Q I r h
  obtain ⟨a, xs, k, rfl, hs, hx, hne, q⟩ := h
  obtain ⟨its, rv, hl, hz⟩ := I.list hs
  obtain ⟨u, rfl, ru⟩ := vals1 r
  obtain rfl : u = Value.ref a := ru
  obtain ⟨e1, e2⟩ := refs_back rv fun x m => by
    obtain ⟨t, e, _⟩ := hx x m
    exact ⟨t, e⟩
  have mem : ∀ v ∈ its, ∃ t, v = Value.ref t ∧ V.ref t ∈ xs := fun v hv => by
    obtain ⟨t, rfl⟩ := e2 v hv
    exact ⟨t, rfl, by rw [e1]; exact List.mem_map.mpr ⟨_, hv, rfl⟩⟩
  refine SrtT.sorted_tupsO (k := fun u => k (backV u)) hl.isList (by rw [← rv.length]; exact hz) (fun v hv => ?_) (fun h2 v hv => ?_) fun h' d out h1 h2 kp hd hn => ?_
  · obtain ⟨t, rfl, hm⟩ := mem v hv
    obtain ⟨t', e, ht⟩ := hx _ hm
    cases e
    exact isTI_of (P := X.prog) (w := X.w) (I.isT ht)
  · obtain ⟨t, rfl, hm⟩ := mem v hv
    exact hne (by rw [rv.length]; exact h2) _ hm
  · have h3 : ∀ u ∈ out, ∃ a, u = Value.ref a := fun u hu => e2 u (h2.perm.mem_iff.mp hu)
    obtain ⟨n, hn⟩ := hn
    have hb : SrtO.Stb (fun x y => ltL (k x) (k y)) (out.map backV) xs := by
      rw [e1]
      exact SrtO.Stb.map (ltL_swo k) backV h2
    refine ⟨.ref d, upd H d (.lst (out.map backV)), I.laid (t' := s.toks) kp hd ⟨?_, out, n, vals_back h3, hn⟩, rfl, q _ d (SrtO.srtd_map h1) hb (I.hok.fresh hd)⟩
    rw [hb.len]
    exact hz
end
end L2
namespace Dw
open PySem PySem.Spec PyProof.Rows L2 SrtT
/-- a tuple of ints as data -/
abbrev iTD (ks : List Int) : PyData := .tuple (ks.map PyData.int)
def keyI : V → Int
  | .int i => i
  | _ => 0
def keyT (H : Hp) : V → List Int
  | .ref t => match H t with
    | some (.tup xs) => xs.map keyI
    | _ => []
  | _ => []
theorem keyI_ints : ∀ (ks : List Int), (ks.map V.int).map keyI = ks
  | [] => rfl
  | k :: ks => by rw [List.map_cons, List.map_cons, keyI_ints ks]; rfl
theorem dp_iT {K : PySem.W.Frag} {G H : Hp} (s : Same G H) {v : V} {ks : List Int} (h : Dp K G v (iTD ks)) : ∃ t, v = .ref t ∧ G t = some (.tup (ks.map V.int)) ∧ keyT H v = ks := by
  cases h with
  | tup h1 h2 =>
    have e := ints_dp h2 (ints_map ks)
    subst e
    refine ⟨_, rfl, h1, ?_⟩
    simp only [keyT, s _ _ h1]
    exact keyI_ints ks
theorem das_iT {K : PySem.W.Frag} {G H : Hp} (s : Same G H) : ∀ {vs : List V} {ts : List (List Int)}, DpAll K G vs (ts.map iTD) → (∀ v ∈ vs, Dp K G v (iTD (keyT H v)) ∧ ∃ t, v = .ref t ∧ G t = some (.tup ((keyT H v).map V.int))) ∧ vs.map (keyT H) = ts
  | [], [], _ => ⟨fun v hv => absurd hv (by simp), rfl⟩
  | [], _ :: _, h => nomatch h
  | _ :: _, [], h => nomatch h
  | v :: vs, x :: ts, h => by
    cases h with
    | cons h1 h2 =>
      obtain ⟨i1, i2⟩ := das_iT s h2
      obtain ⟨t, e1, e2, e3⟩ := dp_iT s h1
      refine ⟨fun u hu => ?_, by rw [List.map_cons, i2, e3]⟩
      rcases List.mem_cons.mp hu with rfl | hu
      · rw [e3]
        exact ⟨h1, t, e1, e2⟩
      · exact i1 u hu
theorem das_backT {K : PySem.W.Frag} {G H : Hp} : ∀ {vs : List V}, (∀ v ∈ vs, Dp K G v (iTD (keyT H v))) → DpAll K G vs ((vs.map (keyT H)).map iTD)
  | [], _ => .nil
  | v :: vs, h => .cons (h v List.mem_cons_self) (das_backT fun u hu => h u (List.mem_cons_of_mem _ hu))
/-- sorted(xs), xs a list of tuples of ints -/
def rSortedTD : RCD := fun ds P => match ds with
  | [.list xs] => ∃ ts : List (List Int), xs = ts.map iTD ∧ (2 ≤ ts.length → ∀ t ∈ ts, t ≠ []) ∧ ∀ qs : List (List Int), qs.Perm ts → qs.Pairwise (fun a b => ltL b a = false) → P (.l (qs.map iTD))
  | _ => False
theorem cd_sortedT {K : PySem.W.Frag} : CallD K (rSortedLO K) rSortedTD := by
  intro G H xs ds P Q h s r f
  unfold rSortedTD at r
  split at r
  · obtain ⟨ts, rfl, hne, r⟩ := r
    obtain ⟨v, rfl, hd⟩ := dq1 h
    obtain ⟨a, ys, rfl, h1, h2⟩ := hd.lst s
    obtain ⟨i1, i2⟩ := das_iT s h2
    have ll : ys.length = ts.length := by rw [← i2, List.length_map]
    refine ⟨a, ys, keyT H, rfl, h1, fun x hx => ?_, fun l2 x hx => hne (by omega) _ (by rw [← i2]; exact List.mem_map.mpr ⟨x, hx, rfl⟩), fun zs p hs hb hn => ?_⟩
    · obtain ⟨t, e1, e2⟩ := (i1 x hx).2
      exact ⟨t, e1, .inl (.inl (s _ _ e2))⟩
    have pm := hb.perm
    refine f.2.1 ((zs.map (keyT H)).map iTD) _ p (r (zs.map (keyT H)) ?_ ?_) (das_backT fun v hv => (i1 v (pm.mem_iff.mp hv)).1) hn
    · rw [← i2]
      exact pm.map _
    · exact List.pairwise_map.mpr hs
  · exact r.elim
section
variable {X : Cx} {e a : Expr} {ua : WA} {wa : WE} {p p2 q pos : Pos}
theorem de_sortedT (hg : Gl X "sorted") (hm : X.mg "sorted" = none) (ha : DA X [e] ua) (he : starEach [e] X.env = (false, eval e X.env) :: starEach [] X.env := by rfl) : DE X (.Call (.Name "sorted" p) [e] [] pos) (wCB rSortedTD ua) :=
  de_cb cr_sortedLO cd_sortedT hg hm (by decide +kernel) ha (he := he)
/-- sorted(set(xs)), xs a list of tuples of ints, all as long -/
def wSortSetT (w : WE) : WE := fun δ P => w δ fun r δ1 => ∃ ts : List (List Int), r.as = .list (ts.map iTD) ∧ ts.length < 64 ∧ (∃ d, ∀ t ∈ ts, t.length = d) ∧ ∀ qs : List (List Int), qs.Pairwise (fun a b => ltL a b = true) → (∀ t, t ∈ qs ↔ t ∈ ts) → P (.l (qs.map iTD)) δ1
theorem de_sortedSetT (hc : X.calm = true) (hu : X.A.units + 64 < cLine) (hg : Gl X "sorted") (hm : X.mg "sorted" = none) (hg2 : Gl X "set") (hm2 : X.mg "set" = none) (ha : DE X a wa) (na : starEach [a] X.env = (false, eval a X.env) :: starEach [] X.env := by rfl)
    (nb : starEach [.Call (.Name "set" p2) [a] [] q] X.env = (false, eval (.Call (.Name "set" p2) [a] [] q) X.env) :: starEach [] X.env := by rfl) :
    DE X (.Call (.Name "sorted" p) [.Call (.Name "set" p2) [a] [] q] [] pos) (wSortSetT wa) := by
  refine pe_weak (pe_callB (cr_sortedTO hc) hg hm (by decide +kernel) (pa_cons (pe_callTy (cr_setOfT hc hu) hg2 hm2 (by decide +kernel) (pa_cons ha pa_nil na) (he := na)) pa_nil nb) (he := nb)) fun σ H Q ⟨O, δ, P, R0, w, f⟩ => ?_
  refine ⟨O, δ, _, R0, w, fun r δ1 v H1 w1 s1 R1 k1 => ?_⟩
  obtain ⟨ts, er, few, ⟨d, hd⟩, w1⟩ := w1
  have dq := held0 R0 k1 R1
  rw [er] at dq
  obtain ⟨l, xs, rfl, sq, dx⟩ := dq.lst hid_le
  obtain ⟨i1, i2⟩ := das_iT (H := H1) hid_le dx
  have ex : ∀ (vs : List V), (∀ v ∈ vs, ∃ t, v = V.ref t ∧ hid H1 O t = some (.tup ((keyT H1 v).map V.int))) → ∃ ks : List (Addr × List Int), vs = ks.map (fun p => V.ref p.1) ∧ ks.map (·.2) = vs.map (keyT H1) ∧ ∀ p ∈ ks, hid H1 O p.1 = some (.tup (p.2.map V.int)) ∧ V.ref p.1 ∈ vs ∧ keyT H1 (V.ref p.1) = p.2 := by
    intro vs
    induction vs with
    | nil => intro _; exact ⟨[], rfl, rfl, fun p hp => by simp at hp⟩
    | cons v vs ih =>
      intro hv
      obtain ⟨t, e1, e2⟩ := hv v List.mem_cons_self
      obtain ⟨ks, e3, e4, e5⟩ := ih fun u hu => hv u (List.mem_cons_of_mem _ hu)
      subst e1
      refine ⟨(t, keyT H1 (.ref t)) :: ks, by rw [List.map_cons, e3], by rw [List.map_cons, List.map_cons, e4], fun p hp => ?_⟩
      rcases List.mem_cons.mp hp with rfl | hp
      · exact ⟨e2, List.mem_cons_self, rfl⟩
      · exact ⟨(e5 p hp).1, List.mem_cons_of_mem _ (e5 p hp).2.1, (e5 p hp).2.2⟩
  obtain ⟨ks, e1, e2, hk⟩ := ex xs fun v hv => (i1 v hv).2
  have hts : ks.map (·.2) = ts := e2.trans i2
  have lks : ks.length = ts.length := by rw [← hts, List.length_map]
  refine ⟨l, ks, rfl, by rw [← e1]; exact sq, fun p hp => .inl (.inl (hid_le _ _ (hk p hp).1)), by omega, fun a L hs sub all => ?_⟩
  have lenL : ∀ p ∈ L, p.2.length = d := fun p hp => hd _ (by rw [← hts]; exact List.mem_map.mpr ⟨p, sub p hp, rfl⟩)
  refine ⟨a, L, rfl, upd_same, fun p hp => .inl (.inl ?_), fun nd h2 p hp e => ?_, fun L' b pm nd' few' pw hb => ?_⟩
  · have := hid_le _ _ (hk p (sub p hp)).1
    rw [upd_ne (ne_of_none this hs)]
    exact this
  · have d0 : d = 0 := by rw [← lenL p hp, e]; rfl
    subst d0
    match L, h2, nd, lenL with
    | x :: y :: r, _, nd, lenL =>
      have h1 : x.2 = [] := List.eq_nil_of_length_eq_zero (lenL x (by simp))
      have h2 : y.2 = [] := List.eq_nil_of_length_eq_zero (lenL y (by simp))
      rw [List.map_cons, List.map_cons, h1, h2] at nd
      simp at nd
  · refine (fin_of R0 (s1.trans (Stp.laid R1 hs)) (R1.laid hs) f).2.1 ((L'.map (·.2)).map iTD) _ b (w1 (L'.map (·.2)) ?_ fun t => ?_) ?_ hb
    · refine List.pairwise_map.mpr ?_
      have nd2 : L'.Pairwise (fun q r => q.2 ≠ r.2) := List.pairwise_map.mp nd'
      refine List.Pairwise.imp (fun {x y} h => ?_) (pw.and nd2)
      obtain ⟨h1, h2⟩ := h
      cases e : ltL x.2 y.2 with
      | true => rfl
      | false => exact absurd (ltL_eq _ _ e h1) h2
    · constructor
      · intro ht
        obtain ⟨p, hp, rfl⟩ := List.mem_map.mp ht
        rw [← hts]
        exact List.mem_map.mpr ⟨p, sub p (pm.mem_iff.mp hp), rfl⟩
      · intro ht
        rw [← hts] at ht
        obtain ⟨p, hp, rfl⟩ := List.mem_map.mp ht
        obtain ⟨r, hr, e⟩ := List.mem_map.mp (all p hp)
        exact List.mem_map.mpr ⟨r, pm.mem_iff.mpr hr, e⟩
    · have : ∀ (M : List (Addr × List Int)), (∀ p ∈ M, p ∈ L) → DpAll X.K (hid (upd H1 a (SetTO X.prog X.w a L)) O) (M.map fun q => V.ref q.1) ((M.map (·.2)).map iTD) := by
        intro M
        induction M with
        | nil => intro _; exact .nil
        | cons p M ih =>
          intro hM
          refine .cons ?_ (ih fun r hr => hM r (List.mem_cons_of_mem _ hr))
          have hp := hk p (sub p (hM p List.mem_cons_self))
          have h1 := (i1 _ (by rw [e1]; exact List.mem_map.mpr ⟨p, sub p (hM p List.mem_cons_self), rfl⟩ : V.ref p.1 ∈ xs)).1
          rw [hp.2.2] at h1
          exact Dp.up h1 (hid_new hs)
      exact this L' fun p hp => pm.mem_iff.mp hp
end
end Dw

namespace Dw
open PySem PySem.Spec PyProof.Rows L2
section
variable {X : Cx} {W : WX} {e : Expr} {es : List Expr} {ux : WAX} {pos p : Pos} {x : Str} {idn T : String} {r : List V → Hp → VK → Prop} {R : RCD}
/-- what is built in, called with what may raise -/
def wCBX (R : RCD) (u : WAX) : WEX := fun δ P PX => u δ (fun rs δ1 => stillAll rs δ1 (R (rs.map Rv.as) fun z => P z δ1)) PX
theorem dx_cty (hc : CallR X (.type T) r) (hd : CallD X.K r R) (hg : Gl X x) (hm : X.mg x = none) (hv : bootBuiltins x = some (.type T)) (ha : DAX X W (e :: es) ux) (hn : x ≠ "__name__" := by decide) (hdb : (x == ("__debug__" : Str)) = false := by decide)
    (he : starEach (e :: es) X.env = (false, eval e X.env) :: starEach es X.env := by rfl) (hpl : (backTo pos (starEach es X.env)).any (·.1) = false := by rfl) : DEX X W (.Call (.Name x p) (e :: es) [] pos) (wCBX R ux) :=
  pe_weak (pe_callTy hc hg hm hv ha hn hdb he hpl) fun σ H Q ⟨O, δ, P, PX, R0, w, g, ob⟩ => by
    refine ⟨O, δ, _, PX, R0, w, fun rs δ1 vs H1 w1 s1 R1 k1 => ?_, ob⟩
    obtain ⟨dq, w1⟩ := RvsOk.dq R0 R1 k1 w1
    exact hd (hid H1 O) H1 vs _ _ _ dq hid_le w1 (fin_of R0 s1 R1 g)
theorem dx_tuple (hg : Gl X "tuple") (hm : X.mg "tuple" = none) (ha : DAX X W [e] ux) (he : starEach [e] X.env = (false, eval e X.env) :: starEach [] X.env := by rfl) : DEX X W (.Call (.Name "tuple" p) [e] [] pos) (wCBX rTupleD ux) :=
  dx_cty call_tuple_of cd_tuple hg hm (by decide +kernel) ha (he := he)
/-- a def with the empty tuple as its default, what it is given may raise -/
def wCallPE (S : WE) (u : WAX) : WEX := fun δ P PX => u δ (fun rs δ1 => rs.all noB = true ∧ S ((rs.map fun r => .d r.as) ++ [.d e0D]) fun r _ => (match r with | .b _ _ => False | _ => P r δ1)) PX
theorem dx_callPE {k : Nat} {S : WE} (F : FnE X.prog X.w X.K X.mg X.base k x S) (g0 : X.A.guards = some []) (room : Room k X.A) (hg : Gl X x) (ha : DAX X W (e :: es) ux)
    (hdb : (x == ("__debug__" : Str)) = false := by decide) (he : starEach (e :: es) X.env = (false, eval e X.env) :: starEach es X.env := by rfl) (hpl : (backTo pos (starEach es X.env)).any (·.1) = false := by rfl) : DEX X W (.Call (.Name x p) (e :: es) [] pos) (wCallPE S ux) := by
  obtain ⟨f, fd, ps, T, hm, hk, hT, hb, h4⟩ := F.ex
  refine pe_weak (pe_callGE h4 g0 room hg hm hk hb (pass0 (X := X)) ha hdb he hpl) fun σ H Q ⟨O, δ, P, PX, R0, w, g, ob⟩ => ?_
  refine ⟨O, δ, _, PX, R0, w, fun rs δ1 vs H1 w1 s1 R1 k1 => ?_, ob⟩
  obtain ⟨w0, w1⟩ := w1
  have ha := da_app (RvsOk.dp R0 R1 k1 w0) (.cons (.e0 (hT _)) .nil : DpAll X.K (hid H1 O) [.ref T] [e0D])
  have hR := rep_args R1 ha
  have ee : (rs.map Rv.as ++ [e0D]).map Sl.d = (rs.map fun r => Sl.d r.as) ++ [.d e0D] := by rw [List.map_append, List.map_map]; rfl
  rw [ee] at hR
  refine ⟨O, _, _, hR, w1, fun r δ' v H' w2 s2 R2 k2 => ?_⟩
  have fr : ∀ a, O a → H' a = H1 a := fun a z => s2.frame a z (by
    have := no_own (ds := rs.map Rv.as ++ [e0D]) (σ := (vs ++ [V.ref T]).map some) (a := a)
    rw [ee] at this
    exact this)
  have st : Stp O δ1 δ1 σ H1 H' := ⟨s2.same, fun a z _ => fr a z, fun _ => Iff.rfl, fun _ _ => Iff.rfl, fun _ _ z => z⟩
  cases r with
  | b i xs => exact w2.elim
  | d x => exact g _ _ _ _ w2 (s1.trans st) (R1.mv s2.same fr) k2
  | l xs =>
    obtain ⟨p, us, e1, n, e, ha, hr⟩ := k2
    exact g _ _ _ _ w2 (s1.trans st) (R1.mv s2.same fr) (RvOk.back R0 R1 s1 ⟨p, us, e1, n, e, ha, R1.mvO (fun a z => .inl z) (same_hide s2.same n) fr hr.occ⟩)
end
end Dw
namespace Dw
open PySem PySem.Spec PyProof.Rows L2
section
variable {X : Cx} {a e1 e2 : Expr} {wa we1 we2 : WE} {p p2 pos pos2 sp_ : Pos}
/-- tuple(range(n)), list(range(n)) -/
def rngL (n : Int) : List PyData := (List.range n.toNat).map fun i : Nat => PyData.int ((i : Nat) : Int)
theorem rg_dp {K : PySem.W.Frag} {G : Hp} (n : Int) : DpAll K G (rgV 0 n) (rngL n) := by
  have : ∀ l : List Nat, DpAll K G (l.map fun i => V.int (0 + (i : Nat))) (l.map fun i : Nat => PyData.int ((i : Nat) : Int)) := by
    intro l
    induction l with
    | nil => exact .nil
    | cons i l ih => exact .cons (by show Dp K G (V.int (0 + ((i : Nat) : Int))) (.int ((i : Nat) : Int)); rw [Int.zero_add]; exact .int _) ih
  unfold rgV rngL
  rw [Int.sub_zero]
  exact this _
def wTupRg (w : WE) : WE := fun δ P => w δ fun r δ1 => ∃ n : Int, r = .d (.int n) ∧ 0 ≤ n ∧ n ≤ 1000 ∧ P (.d (.tuple (rngL n))) δ1
theorem de_tupRg (hc : X.calm = true) (hg : Gl X "tuple") (hm : X.mg "tuple" = none) (hg2 : Gl X "range") (hm2 : X.mg "range" = none) (ha : DE X a wa) (na : starEach [a] X.env = (false, eval a X.env) :: starEach [] X.env := by rfl)
    (nb : starEach [.Call (.Name "range" p2) [a] [] pos2] X.env = (false, eval (.Call (.Name "range" p2) [a] [] pos2) X.env) :: starEach [] X.env := by rfl) : DE X (.Call (.Name "tuple" p) [.Call (.Name "range" p2) [a] [] pos2] [] pos) (wTupRg wa) := by
  refine pe_weak (pe_tupRg hc hg hm (prg_1 hg2 hm2 ha na) nb) fun σ H Q ⟨O, δ, P, R0, w, f⟩ => ?_
  refine ⟨O, δ, _, R0, w, fun r δ1 v H1 w1 s1 R1 k1 => ?_⟩
  obtain ⟨n, rfl, n0, n1, w1⟩ := w1
  have k1 : Dp X.K (hid H1 O) v (.int n) := k1
  cases k1
  exact ⟨n, rfl, .of_le (Int.le_refl _) (by omega) (by omega) n0, fun q hq => (fin_of R0 s1 R1 f).2.2 _ _ q w1 (rg_dp n) hq⟩
def wLstRg (w : WE) : WE := fun δ P => w δ fun r δ1 => ∃ n : Int, r = .d (.int n) ∧ 0 ≤ n ∧ n ≤ 1000 ∧ P (.l (rngL n)) δ1
theorem de_lstRg (hc : X.calm = true) (hg : Gl X "list") (hm : X.mg "list" = none) (hg2 : Gl X "range") (hm2 : X.mg "range" = none) (ha : DE X a wa) (na : starEach [a] X.env = (false, eval a X.env) :: starEach [] X.env := by rfl)
    (nb : starEach [.Call (.Name "range" p2) [a] [] pos2] X.env = (false, eval (.Call (.Name "range" p2) [a] [] pos2) X.env) :: starEach [] X.env := by rfl) : DE X (.Call (.Name "list" p) [.Call (.Name "range" p2) [a] [] pos2] [] pos) (wLstRg wa) := by
  refine pe_weak (pe_listRg hc hg hm (prg_1 hg2 hm2 ha na) nb) fun σ H Q ⟨O, δ, P, R0, w, f⟩ => ?_
  refine ⟨O, δ, _, R0, w, fun r δ1 v H1 w1 s1 R1 k1 => ?_⟩
  obtain ⟨n, rfl, n0, n1, w1⟩ := w1
  have k1 : Dp X.K (hid H1 O) v (.int n) := k1
  cases k1
  exact ⟨n, rfl, .of_le (Int.le_refl _) (by omega) (by omega) n0, fun q hq => (fin_of R0 s1 R1 f).2.1 _ _ q w1 (rg_dp n) hq⟩
/-- (*e1, e2) -/
def wTupS (w1 w2 : WE) : WE := fun δ P => w1 δ fun r δ1 => match r with
  | .d (.tuple xs) => xs.length < 900 ∧ w2 δ1 fun s δ2 => noB s = true ∧ P (.d (.tuple (xs ++ [s.as]))) δ2
  | _ => False
theorem de_tupS {x1} (h1 : DE X e1 we1) (h2 : DE X e2 we2) (hs : starEach [e2] X.env = (false, eval e2 X.env) :: starEach [] X.env := by rfl) (hs2 : starEach (.Starred e1 sp_ :: [e2]) X.env = (true, eval e1 X.env) :: starEach [e2] X.env := by rfl) : DE X (.Tuple [.Starred e1 sp_, e2] x1 pos) (wTupS we1 we2) := by
  refine pe_weak (pe_tup (StX.pa_star h1 (pa_cons h2 pa_nil hs) hs2)) fun σ H Q ⟨O, δ, P, R0, w, f⟩ => ?_
  refine ⟨O, δ, _, R0, w, fun r δ1 v H1 w1 s1 R1 k1 => ?_⟩
  cases r with
  | l xs => exact w1.elim
  | b i xs => exact w1.elim
  | d x =>
    cases x <;> first | exact False.elim w1 | skip
    rename_i xs
    have k1 : Dp X.K (hid H1 O) v (.tuple xs) := k1
    obtain ⟨a, vs, rfl, sq, da⟩ := Dq.tup hid_le (.inl k1)
    refine ⟨a, vs, rfl, .inl sq, O, δ1, _, R1, w1.2, fun s δ2 u H2 w2 s2 R2 k2 => ?_⟩
    have d2 := rv_dp R1 k2 w2.1
    have l1 := w1.1
    refine ⟨?_, fun p hp => (fin_of R0 (s1.trans s2) R2 f).2.2 _ _ p w2.2 (da_app (DpAll.up da s2.same) (.cons d2 .nil)) hp⟩
    rw [List.length_append, da_len da]
    exact Nat.le_of_lt (small1000 (by simp only [List.length_cons, List.length_nil]; omega))
/-- a new list, kept as data -/
def wDat (w : WE) : WE := fun δ P => w δ fun r δ1 => match r with
  | .d x => P (.d x) δ1
  | .l xs => P (.d (.list xs)) δ1
  | .b _ _ => False
theorem de_dat (h : DE X a wa) : DE X a (wDat wa) := pe_weak h fun σ H Q ⟨O, δ, P, R, w, f⟩ => ⟨O, δ, _, R, w, fun r δ1 v H1 w1 s1 R1 k1 => by
  cases r with
  | d x => exact f _ _ _ _ w1 s1 R1 k1
  | l xs => exact f _ _ _ _ w1 s1 R1 (rv_dp R k1 rfl)
  | b i xs => exact w1.elim⟩
/-- x in a list of any data -/
def rInL (neg : Bool) : R2D := fun d e P => match e with
  | .list ds => (SeqAt.shaped d = true ∧ SeqAt.shaped (.list ds) = true) ∧ P (.d (.bool (if neg then !inD d ds else inD d ds)))
  | _ => False
theorem hu65 {k : Nat} {A : Around} (r : Room k A) : A.units + 65 < cLine := by have := r.un; omega
theorem opd_inL0 {K : PySem.W.Frag} : OpD K (L2.rInD K) (rInL false) := by
  intro G H x y d e P Q hx hy s r f
  unfold rInL at r
  split at r
  · exact ⟨d, _, (hx.dp s).shaped r.1.1, (hy.dp s).shaped r.1.2, r.1.1, r.1.2, f.1 _ _ r.2 (.bl _)⟩
  · exact r.elim
theorem opd_inL1 {K : PySem.W.Frag} : OpD K (L2.rNotInD K) (rInL true) := by
  intro G H x y d e P Q hx hy s r f
  unfold rInL at r
  split at r
  · exact ⟨d, _, (hx.dp s).shaped r.1.1, (hy.dp s).shaped r.1.2, r.1.1, r.1.2, f.1 _ _ r.2 (.bl _)⟩
  · exact r.elim
variable {b : Expr} {wb : WE}
theorem de_inL (hu : X.A.units + 65 < cLine) (ha : DE X a wa) (hb : DE X b wb) (hm : behindInMarks .In b = false := by rfl) : DE X (.Compare a [.In] [b] pos) (w2 (rInL false) wa wb) := de_cmp (op_inD hu) opd_inL0 ha hb hm
theorem de_notinL (hu : X.A.units + 65 < cLine) (ha : DE X a wa) (hb : DE X b wb) (hm : behindInMarks .NotIn b = false := by rfl) : DE X (.Compare a [.NotIn] [b] pos) (w2 (rInL true) wa wb) := de_cmp (op_notInD hu) opd_inL1 ha hb hm
theorem dt_inL (hu : X.A.units + 65 < cLine) (ha : DE X a wa) (hb : DE X b wb) (hm : behindInMarks .In b = false := by rfl) : DT X (.Compare a [.In] [b] pos) (wB (w2 (rInL false) wa wb)) := dt_cmp2 (op_inD hu) opd_inL0 ha hb hm
theorem dt_notinL (hu : X.A.units + 65 < cLine) (ha : DE X a wa) (hb : DE X b wb) (hm : behindInMarks .NotIn b = false := by rfl) : DT X (.Compare a [.NotIn] [b] pos) (wB (w2 (rInL true) wa wb)) := dt_cmp2 (op_notInD hu) opd_inL1 ha hb hm
end
end Dw

namespace B
open PySem PySem.Spec PyProof.Rows L2 Dw
local macro_rules | `(tactic| walk_at "ds") => `(tactic| try dsimp only [wRet, wRetN, sPu, wThenX, wIfX, wRetX, wDropX, wSetX, wCallX, wCallP, uPu, wPu, uConsX, wRaise, wDc, wDcT, wDZ, wD1, wGet1, wGet2, wGetT, wThen, wIfS, wIf, wNotT, wTru, wB, w2, wV, wC, wCons, wNil, wCall, wCallO, wCallO1, endO, wCB, wLc, wSeq, wYes, wNext, wNever, wDrop, wSet, wAsg, wPair, wFor, wTup, wLst, wAndV, wOrV, wNotV, wNeg, wAndT, wOrT, wIsi, wChain, wSlice, wPart, wNo, wZip, wEnum, wRng1, wRng2, wLc2, wApp, wApp1, wPop, wPop1, wExt, wExt1, wSetI, wSetI1, wSetD, wIdx, wIdx1, wExtL, wExtL1, wLenM, wNotInM, wGetM, wPutM, wPutM1, wSetK, wTri, wForget, rCatTD, rCatLD, intsR, Option.map_some, bN, bTup, bCons, bNil, as_d, as_l, as_b, noB_d, noB_l, still_d, still_l, still_b, put_d, put_l, tru_bool, tru_tup, tru_lst, isT_tup, isI_int, isB_int, stillA_nil, stillA_cons, map0, map1, map2, map3, len_l, len_t, tup_l, tup_t, lst_l, lst_t, max_i, min_i, List.all_cons, List.all_nil, Bool.and_self, Bool.and_true, Bool.not_true, Bool.not_false, List.getElem?_cons_zero, List.getElem?_cons_succ, List.cons_append, List.nil_append, List.append_nil, List.reduceReplicate, Nat.reduceSub, Nat.sub_self, rI1, rI2, rAddD, rSubD, rMulD, rDivD, rModD, rPowD, rLtD, rLeD, rGtD, rGeD, List.set_cons_zero, List.set_cons_succ, List.set_nil, endsOf, outD, wipeD])
/-! ### tables by data -/
abbrev Cells := List (Option Int)
abbrev Rule := List Int × Int
def cellD : Option Int → PyData
  | none => .none
  | some i => .int i
def rowD (r : Cells) : PyData := .tuple (r.map cellD)
def rowsD (rs : List Cells) : PyData := .tuple (rs.map rowD)
def tabD (m : Int) (rs : List Cells) : PyData := .tuple [.int m, rowsD rs]
def iT (g : List Int) : PyData := .tuple (g.map PyData.int)
def ruleD (r : Rule) : PyData := .tuple [iT r.1, .int r.2]
def rulesD (rs : List Rule) : PyData := .tuple (rs.map ruleD)
def pairD (p : Nat × Nat) : PyData := .tuple [.int (p.1 : Nat), .int (p.2 : Nat)]
def pairsD (ps : List (Nat × Nat)) : PyData := .tuple (ps.map pairD)
def CellOk (c : Option Int) : Prop := ∀ v, c = some v → 0 ≤ v ∧ v ≤ 9999
def RowOk (m : Int) (r : Cells) : Prop := (r.length : Int) = m ∧ ∀ c ∈ r, CellOk c
structure TabOk (m : Int) (rs : List Cells) : Prop where
  lo : 1 ≤ m
  hi : m ≤ 5
  few : rs.length ≤ 8
  rows : ∀ r ∈ rs, RowOk m r
structure ColsOk (m : Int) (g : List Int) : Prop where
  few : g.length ≤ 5
  asc : g.Pairwise (· < ·)
  inn : ∀ c ∈ g, 0 ≤ c ∧ c < m
structure RuleOk (m : Int) (r : Rule) : Prop where
  cols : ColsOk m r.1
  lo : 0 ≤ r.2
  hi : r.2 < m
  out : r.2 ∉ r.1
structure RulesOk (m : Int) (rs : List Rule) : Prop where
  few : rs.length ≤ 8
  all : ∀ r ∈ rs, RuleOk m r
def Full (rs : List Cells) : Prop := ∀ r ∈ rs, ∀ c ∈ r, c ≠ none
def at_ (r : Cells) (c : Int) : Option Int := r.getD c.toNat none
def eqIn (g : List Int) (a b : Cells) : Bool := g.all fun c => decide (at_ a c = at_ b c)
def pairs (n : Nat) : List (Nat × Nat) := (List.range n).flatMap fun i => (List.range (n - (i + 1))).map fun j => (i, i + 1 + j)
def brkT (rs : List Cells) (r : Rule) (p : Nat × Nat) : Bool := eqIn r.1 (rs.getD p.1 []) (rs.getD p.2 []) && !decide (at_ (rs.getD p.1 []) r.2 = at_ (rs.getD p.2 []) r.2)
def brk (rs : List Cells) (r : Rule) : List (Nat × Nat) := (pairs rs.length).filter (brkT rs r)
def blanksOf (rs : List Cells) : List (Nat × Nat) := rs.zipIdx.flatMap fun p => (p.1.zipIdx.filter fun q => q.1.isNone).map fun q => (p.2, q.2)
/-! ### what each def promises -/
def S_is_number : WE := fun δ P => ∃ i lo hi, δ = [.d (.int i), .d (.int lo), .d (.int hi)] ∧ lo ≤ i ∧ i ≤ hi ∧ P (.d (.bool true)) δ
def S_is_many : WE := fun δ P => ∃ i, δ = [.d (.int i)] ∧ 1 ≤ i ∧ i ≤ 5 ∧ P (.d (.bool true)) δ
def S_is_column : WE := fun δ P => ∃ m i, δ = [.d (.int m), .d (.int i)] ∧ 0 ≤ i ∧ i < m ∧ P (.d (.bool true)) δ
def S_is_cell : WE := fun δ P => ∃ c, δ = [.d (cellD c)] ∧ CellOk c ∧ P (.d (.bool true)) δ
def S_is_row : WE := fun δ P => ∃ m r, δ = [.d (.int m), .d (rowD r)] ∧ m ≤ 5 ∧ RowOk m r ∧ P (.d (.bool true)) δ
def S_are_rows : WE := fun δ P => ∃ m rs, δ = [.d (.int m), .d (rowsD rs)] ∧ TabOk m rs ∧ P (.d (.bool true)) δ
def S_is_table : WE := fun δ P => ∃ m rs, δ = [.d (tabD m rs)] ∧ TabOk m rs ∧ P (.d (.bool true)) δ
def S_is_number_set : WE := fun δ P => ∃ g lo hi, δ = [.d (iT g), .d (.int lo), .d (.int hi)] ∧ g.length ≤ 100 ∧ g.Pairwise (· < ·) ∧ (∀ c ∈ g, lo ≤ c ∧ c ≤ hi) ∧ P (.d (.bool true)) δ
def S_need_many : WE := fun δ P => ∃ i, δ = [.d (.int i)] ∧ 1 ≤ i ∧ i ≤ 5 ∧ P (.d .none) δ
def S_are_columns : WE := fun δ P => ∃ m g, δ = [.d (.int m), .d (iT g)] ∧ ColsOk m g ∧ P (.d (.bool true)) δ
def S_is_rule : WE := fun δ P => ∃ m r, δ = [.d (.int m), .d (ruleD r)] ∧ RuleOk m r ∧ P (.d (.bool true)) δ
def S_are_rules : WE := fun δ P => ∃ m rs, δ = [.d (.int m), .d (rulesD rs)] ∧ 1 ≤ m ∧ m ≤ 5 ∧ RulesOk m rs ∧ P (.d (.bool true)) δ
def S_need_table : WE := fun δ P => ∃ m rs, δ = [.d (tabD m rs)] ∧ TabOk m rs ∧ P (.d .none) δ
def S_need_rules : WE := fun δ P => ∃ m rs, δ = [.d (.int m), .d (rulesD rs)] ∧ 1 ≤ m ∧ m ≤ 5 ∧ RulesOk m rs ∧ P (.d .none) δ
def S_blanks : WE := fun δ P => ∃ m rs, δ = [.d (tabD m rs)] ∧ TabOk m rs ∧ P (.d (pairsD (blanksOf rs))) δ
def S_need_full : WE := fun δ P => ∃ m rs, δ = [.d (tabD m rs)] ∧ TabOk m rs ∧ Full rs ∧ P (.d .none) δ
def S_row_pairs : WE := fun δ P => ∃ n : Nat, δ = [.d (.int n)] ∧ n ≤ 100 ∧ P (.l ((pairs n).map pairD)) δ
def S_equal_in : WE := fun δ P => ∃ g a b, δ = [.d (iT g), .d (rowD a), .d (rowD b)] ∧ g.length ≤ 100 ∧ (∀ c ∈ g, 0 ≤ c ∧ c < a.length ∧ c < b.length) ∧ P (.d (.bool (eqIn g a b))) δ
def S_breaking_pairs : WE := fun δ P => ∃ m rs r, δ = [.d (rowsD rs), .d (ruleD r)] ∧ TabOk m rs ∧ RuleOk m r ∧ P (.d (pairsD (brk rs r))) δ
def S_hold_in : WE := fun δ P => ∃ m rs rl, δ = [.d (rowsD rs), .d (rulesD rl)] ∧ TabOk m rs ∧ RulesOk m rl ∧ P (.d (.bool (rl.all fun r => (brk rs r).isEmpty))) δ
def S_holds : WE := fun δ P => ∃ m rs rl, δ = [.d (tabD m rs), .d (rulesD rl)] ∧ TabOk m rs ∧ Full rs ∧ RulesOk m rl ∧ P (.d (.bool (rl.all fun r => (brk rs r).isEmpty))) δ
def S_breaking : WE := fun δ P => ∃ m rs r, δ = [.d (tabD m rs), .d (ruleD r)] ∧ TabOk m rs ∧ Full rs ∧ RuleOk m r ∧ P (.d (pairsD (brk rs r))) δ
/-- slots: 0 thing, 1 low, 2 high -/
def wb_is_number : WS := (wRet (wAndV (wIsi isIntD (wV 0)) (wAndV (wNotV (wIsi isBoolD (wV 0))) (wChain rLeD rLeD (wV 1) (wV 0) (wV 2)))))
/-- slots: 0 thing, 1 low, 2 high, 3 number, 4 behind -/
def wb_is_number_set : WS := (wThen (wIfS (wOrT (wNotT (wTru (wIsi isTupD (wV 0)))) (wNotT (wTru (wCB rAllD (wCons (wLc (wSeq (wV 0)) (bN 3) wYes (wCall S_is_number (wCons (wV 3) (wCons (wV 1) (wCons (wV 2) wNil)))) [3]) wNil))))) (wRet (wC (.bool false))) wNext)
      (wRet (wCB rAllD (wCons (wLc (wZip (wCons (wV 0) (wCons (wSlice (wV 0) (wPart (wC (.int 1))) wNo) wNil))) (bTup 2 (bCons (bN 3) (bCons (bN 4) bNil))) wYes (w2 rLtD (wV 3) (wV 4)) [3, 4]) wNil))))
/-- slots: 0 thing -/
def wb_is_many : WS := (wRet (wCall S_is_number (wCons (wV 0) (wCons (wC (.int 1)) (wCons (wC (.int 5)) wNil)))))
/-- slots: 0 many, 1 thing -/
def wb_is_column : WS := (wRet (wCall S_is_number (wCons (wV 1) (wCons (wC (.int 0)) (wCons (w2 rSubD (wV 0) (wC (.int 1))) wNil)))))
/-- slots: 0 thing -/
def wb_is_cell : WS := (wRet (wOrV (w2 (rIsT false) (wV 0) (wC .none)) (wCall S_is_number (wCons (wV 0) (wCons (wC (.int 0)) (wCons (wC (.int 9999)) wNil))))))
/-- slots: 0 many, 1 thing, 2 cell -/
def wb_is_row : WS := (wRet (wAndV (wIsi isTupD (wV 1)) (wAndV (w2 rEqT (wCB rLenD (wCons (wV 1) wNil)) (wV 0)) (wCB rAllD (wCons (wLc (wSeq (wV 1)) (bN 2) wYes (wCall S_is_cell (wCons (wV 2) wNil)) [2]) wNil)))))
/-- slots: 0 many, 1 thing, 2 row -/
def wb_are_rows : WS := (wRet (wAndV (wIsi isTupD (wV 1)) (wAndV (w2 rLeD (wCB rLenD (wCons (wV 1) wNil)) (wC (.int 8))) (wCB rAllD (wCons (wLc (wSeq (wV 1)) (bN 2) wYes (wCall S_is_row (wCons (wV 0) (wCons (wV 2) wNil))) [2]) wNil)))))
/-- slots: 0 thing -/
def wb_is_table : WS := (wRet (wAndV (wIsi isTupD (wV 0)) (wAndV (w2 rEqT (wCB rLenD (wCons (wV 0) wNil)) (wC (.int 2))) (wAndV (wCall S_is_many (wCons (w2 rIxD (wV 0) (wC (.int 0))) wNil)) (wCall S_are_rows (wCons (w2 rIxD (wV 0) (wC (.int 0))) (wCons (w2 rIxD (wV 0) (wC (.int 1))) wNil)))))))
/-- slots: 0 many, 1 thing -/
def wb_are_columns : WS := (wRet (wCall S_is_number_set (wCons (wV 1) (wCons (wC (.int 0)) (wCons (w2 rSubD (wV 0) (wC (.int 1))) wNil)))))
/-- slots: 0 many, 1 thing, 2 given, 3 then -/
def wb_is_rule : WS := (wThen (wIfS (wOrT (wNotT (wTru (wIsi isTupD (wV 1)))) (wB (w2 rNeT (wCB rLenD (wCons (wV 1) wNil)) (wC (.int 2))))) (wRet (wC (.bool false))) wNext)
      (wThen (wAsg (wV 1) (bTup 2 (bCons (bN 2) (bCons (bN 3) bNil))))
      (wRet (wAndV (wCall S_are_columns (wCons (wV 0) (wCons (wV 2) wNil))) (wAndV (wCall S_is_column (wCons (wV 0) (wCons (wV 3) wNil))) (w2 (rInT true) (wV 3) (wV 2)))))))
/-- slots: 0 thing -/
def wb_need_many : WS := (wIfS (wNotT (wTru (wCall S_is_many (wCons (wV 0) wNil)))) wNever wNext)
/-- slots: 0 many, 1 thing, 2 rule -/
def wb_are_rules : WS := (wThen (wDrop (wCall S_need_many (wCons (wV 0) wNil)))
      (wRet (wAndV (wIsi isTupD (wV 1)) (wAndV (w2 rLeD (wCB rLenD (wCons (wV 1) wNil)) (wC (.int 8))) (wCB rAllD (wCons (wLc (wSeq (wV 1)) (bN 2) wYes (wCall S_is_rule (wCons (wV 0) (wCons (wV 2) wNil))) [2]) wNil))))))
/-- slots: 0 thing -/
def wb_need_table : WS := (wIfS (wNotT (wTru (wCall S_is_table (wCons (wV 0) wNil)))) wNever wNext)
/-- slots: 0 many, 1 thing -/
def wb_need_rules : WS := (wIfS (wNotT (wTru (wCall S_are_rules (wCons (wV 0) (wCons (wV 1) wNil))))) wNever wNext)
/-- slots: 0 table -/
def wb_need_full : WS := (wIfS (wTru (wCall S_blanks (wCons (wV 0) wNil))) wNever wNext)
/-- slots: 0 table, 1 row, 2 cells, 3 column, 4 cell -/
def wb_blanks : WS := (wThen (wDrop (wCall S_need_table (wCons (wV 0) wNil)))
      (wRet (wCB rTupleD (wCons (wLc2 (wEnum (wCons (w2 rIxD (wV 0) (wC (.int 1))) wNil)) (bTup 2 (bCons (bN 1) (bCons (bN 2) bNil))) wYes (wEnum (wCons (wV 2) wNil)) (bTup 2 (bCons (bN 3) (bCons (bN 4) bNil))) (wB (w2 (rIsT false) (wV 4) (wC .none))) (wTup (wCons (wV 1) (wCons (wV 3) wNil))) [1, 2, 3, 4] [3, 4]) wNil))))
/-- slots: 0 amount, 1 row, 2 other -/
def wb_row_pairs : WS := (wRet (wLc2 (wRng1 (wCons (wV 0) wNil)) (bN 1) wYes (wRng2 (wCons (w2 rAddD (wV 1) (wC (.int 1))) (wCons (wV 0) wNil))) (bN 2) wYes (wTup (wCons (wV 1) (wCons (wV 2) wNil))) [1, 2] [2]))
/-- slots: 0 columns, 1 cells, 2 others, 3 column -/
def wb_equal_in : WS := (wRet (wCB rAllD (wCons (wLc (wSeq (wV 0)) (bN 3) wYes (w2 rEqT (w2 rIxD (wV 1) (wV 3)) (w2 rIxD (wV 2) (wV 3))) [3]) wNil)))
/-- slots: 0 rows, 1 rule, 2 given, 3 then, 4 row, 5 other -/
def wb_breaking_pairs : WS := (wThen (wAsg (wV 1) (bTup 2 (bCons (bN 2) (bCons (bN 3) bNil))))
      (wRet (wCB rTupleD (wCons (wLc (wSeq (wCall S_row_pairs (wCons (wCB rLenD (wCons (wV 0) wNil)) wNil))) (bTup 2 (bCons (bN 4) (bCons (bN 5) bNil))) (wAndT (wTru (wCall S_equal_in (wCons (wV 2) (wCons (w2 rIxD (wV 0) (wV 4)) (wCons (w2 rIxD (wV 0) (wV 5)) wNil))))) (wB (w2 rNeT (w2 rIxD (w2 rIxD (wV 0) (wV 4)) (wV 3)) (w2 rIxD (w2 rIxD (wV 0) (wV 5)) (wV 3))))) (wTup (wCons (wV 4) (wCons (wV 5) wNil))) [4, 5]) wNil))))
/-- slots: 0 rows, 1 rules, 2 rule -/
def wb_hold_in : WS := (wRet (wCB rAllD (wCons (wLc (wSeq (wV 1)) (bN 2) wYes (w2 rEqT (wCall S_breaking_pairs (wCons (wV 0) (wCons (wV 2) wNil))) (wTup wNil)) [2]) wNil)))
/-- slots: 0 table, 1 rules -/
def wb_holds : WS := (wThen (wDrop (wCall S_need_table (wCons (wV 0) wNil)))
      (wThen (wDrop (wCall S_need_rules (wCons (w2 rIxD (wV 0) (wC (.int 0))) (wCons (wV 1) wNil))))
      (wThen (wDrop (wCall S_need_full (wCons (wV 0) wNil)))
      (wRet (wCall S_hold_in (wCons (w2 rIxD (wV 0) (wC (.int 1))) (wCons (wV 1) wNil)))))))
/-- slots: 0 table, 1 rule -/
def wb_breaking : WS := (wThen (wDrop (wCall S_need_table (wCons (wV 0) wNil)))
      (wThen (wIfS (wNotT (wTru (wCall S_is_rule (wCons (w2 rIxD (wV 0) (wC (.int 0))) (wCons (wV 1) wNil))))) wNever wNext)
      (wThen (wDrop (wCall S_need_full (wCons (wV 0) wNil)))
      (wRet (wCall S_breaking_pairs (wCons (w2 rIxD (wV 0) (wC (.int 1))) (wCons (wV 1) wNil)))))))
theorem eqv_int (a b : Int) : PyData.eqv (.int a) (.int b) = decide (a = b) := by
  have : PyData.eqv (.int a) (.int b) = (a == b) := by unfold PyData.eqv; rfl
  rw [this, Bool.beq_eq_decide_eq]
theorem ifT {A B : Prop} {c : Bool} (e : c = true) (h : A) : if c = true then A else B := by rw [if_pos e]; exact h
theorem ifF {A B : Prop} {c : Bool} (e : c = false) (h : B) : if c = true then A else B := by rw [e]; exact h
theorem all_ok {xs : List PyData} {P : Rv → Prop} (bs : List Bool) (e : xs = bs.map PyData.bool) (h : P (.d (.bool (bs.all id)))) : rAllD [.list xs] P := by
  subst e
  simp only [rAllD, bools_map]
  exact h
theorem tupix {xs : List PyData} {i : Int} {z : PyData} {P : Rv → Prop} (e : atI xs i = some z) (h : P (.d z)) : rIxD (.tuple xs) (.int i) P := by
  unfold Dw.rIxD
  simp only [e]
  exact h
theorem eq_ok {d e : PyData} {P : Rv → Prop} {k : Bool} (o : eqOk d e = true) (q : PyData.eqv d e = k) (h : P (.d (.bool k))) : rEqT d e P := ⟨o, by rw [q]; exact h⟩
theorem ne_ok {d e : PyData} {P : Rv → Prop} {k : Bool} (o : eqOk d e = true) (q : PyData.eqv d e = k) (h : P (.d (.bool (!k)))) : rNeT d e P := ⟨o, by rw [q]; exact h⟩
theorem is_ok {d : PyData} {P : Rv → Prop} {k : Bool} (q : isNo d = k) (h : P (.d (.bool k))) : rIsT false d .none P := by
  subst q
  exact h
theorem atI_of {α : Type} {xs : List α} {i : Int} {z : α} (h0 : 0 ≤ i) (e : xs[i.toNat]? = some z) : atI xs i = some z := by
  have := atI_nat e
  rw [Int.toNat_of_nonneg h0] at this
  exact this
theorem hS_is_number : ∀ δ P, S_is_number δ P → ArgOk 3 δ ∧ wb_is_number (endsOf δ P) (δ ++ List.replicate (3 - 3) Sl.un) := by
  rintro δ P ⟨i, lo, hi, rfl, h1, h2, h⟩
  refine ⟨argD [.int i, .int lo, .int hi], ?_⟩
  unfold wb_is_number
  walk_at "ds"
  refine ifT rfl (ifT rfl (ifT (decide_eq_true h1) ?_))
  rw [decide_eq_true h2]
  exact h
theorem hS_is_many : ∀ δ P, S_is_many δ P → ArgOk 1 δ ∧ wb_is_many (endsOf δ P) (δ ++ List.replicate (1 - 1) Sl.un) := by
  rintro δ P ⟨i, rfl, h1, h2, h⟩
  exact ⟨argD [.int i], rfl, i, 1, 5, rfl, h1, h2, h⟩
theorem hS_is_column : ∀ δ P, S_is_column δ P → ArgOk 2 δ ∧ wb_is_column (endsOf δ P) (δ ++ List.replicate (2 - 2) Sl.un) := by
  rintro δ P ⟨m, i, rfl, h1, h2, h⟩
  exact ⟨argD [.int m, .int i], rfl, i, 0, m - 1, rfl, h1, by omega, h⟩
theorem hS_is_cell : ∀ δ P, S_is_cell δ P → ArgOk 1 δ ∧ wb_is_cell (endsOf δ P) (δ ++ List.replicate (1 - 1) Sl.un) := by
  rintro δ P ⟨c, rfl, h1, h⟩
  refine ⟨argD [cellD c], ?_⟩
  cases c with
  | none => exact h
  | some v => exact ⟨rfl, v, 0, 9999, rfl, (h1 v rfl).1, (h1 v rfl).2, h⟩
theorem all_true {n : Nat} : (List.replicate n true).all id = true := by simp
theorem map_true {α : Type} (xs : List α) (f : α → PyData) (g : PyData → PyData) (h : ∀ x ∈ xs, g (f x) = .bool true) : (xs.map f).map g = (List.replicate xs.length true).map PyData.bool := by
  induction xs with
  | nil => rfl
  | cons x r ih =>
    rw [List.map_cons, List.map_cons, List.length_cons, List.replicate_succ, List.map_cons, ih fun y hy => h y (List.mem_cons_of_mem _ hy), h x List.mem_cons_self]
theorem hS_is_row : ∀ δ P, S_is_row δ P → ArgOk 2 δ ∧ wb_is_row (endsOf δ P) (δ ++ List.replicate (3 - 2) Sl.un) := by
  rintro δ P ⟨m, r, rfl, hm, hr, h⟩
  refine ⟨argD [.int m, rowD r], ?_⟩
  unfold wb_is_row rowD
  walk_at "ds"
  have e : ((r.map cellD).length : Int) = m := by rw [List.length_map]; exact hr.1
  refine ifT rfl (eq_ok rfl (by rw [eqv_int]; exact decide_eq_true e) (ifT rfl ⟨⟨by omega, rfl⟩, ?_⟩))
  refine go_map (fun _ => .bool true) _ [] (fun x hx C C' h1 h2 => ?_) (all_ok _ (map_true r cellD _ fun _ _ => rfl) (by rw [all_true]; exact h))
  obtain ⟨c, hc, rfl⟩ := List.mem_map.mp hx
  exact ⟨rfl, c, rfl, hr.2 c hc, rfl, h1 rfl⟩
theorem hS_are_rows : ∀ δ P, S_are_rows δ P → ArgOk 2 δ ∧ wb_are_rows (endsOf δ P) (δ ++ List.replicate (3 - 2) Sl.un) := by
  rintro δ P ⟨m, rs, rfl, ht, h⟩
  refine ⟨argD [.int m, rowsD rs], ?_⟩
  unfold wb_are_rows rowsD
  walk_at "ds"
  have hf := ht.few
  have e : (((rs.map rowD).length : Nat) : Int) ≤ 8 := by rw [List.length_map]; omega
  refine ifT rfl (ifT (decide_eq_true e) ⟨⟨by rw [List.length_map]; omega, rfl⟩, ?_⟩)
  refine go_map (fun _ => .bool true) _ [] (fun x hx C C' h1 h2 => ?_) (all_ok _ (map_true rs rowD _ fun _ _ => rfl) (by rw [all_true]; exact h))
  obtain ⟨r, hr, rfl⟩ := List.mem_map.mp hx
  exact ⟨rfl, m, r, rfl, ht.hi, ht.rows r hr, rfl, h1 rfl⟩
theorem hS_is_table : ∀ δ P, S_is_table δ P → ArgOk 1 δ ∧ wb_is_table (endsOf δ P) (δ ++ List.replicate (1 - 1) Sl.un) := by
  rintro δ P ⟨m, rs, rfl, ht, h⟩
  refine ⟨argD [tabD m rs], ?_⟩
  unfold wb_is_table tabD
  walk_at "ds"
  refine ifT rfl (eq_ok rfl (by rw [eqv_int]; rfl) (ifT rfl (tupix rfl ⟨rfl, m, rfl, ht.lo, ht.hi, ?_⟩)))
  exact ifT rfl (tupix rfl (tupix rfl ⟨rfl, m, rs, rfl, ht, h⟩))
theorem hS_need_table : ∀ δ P, S_need_table δ P → ArgOk 1 δ ∧ wb_need_table (endsOf δ P) (δ ++ List.replicate (1 - 1) Sl.un) := by
  rintro δ P ⟨m, rs, rfl, ht, h⟩
  exact ⟨argD [tabD m rs], rfl, m, rs, rfl, ht, ifF rfl h⟩
theorem hS_is_number_set : ∀ δ P, S_is_number_set δ P → ArgOk 3 δ ∧ wb_is_number_set (endsOf δ P) (δ ++ List.replicate (5 - 3) Sl.un) := by
  rintro δ P ⟨g, lo, hi, rfl, hf, hasc0, hin, h⟩
  refine ⟨argD [iT g, .int lo, .int hi], ?_⟩
  unfold wb_is_number_set iT
  walk_at "ds"
  refine ifF rfl ⟨⟨by rw [List.length_map]; omega, rfl⟩, ?_⟩
  refine go_map (fun _ => .bool true) _ [] (fun x hx C C' h1 h2 => ?_) (all_ok _ (map_true g PyData.int _ fun _ _ => rfl) ?_)
  · obtain ⟨c, hc, rfl⟩ := List.mem_map.mp hx
    exact ⟨rfl, c, lo, hi, rfl, (hin c hc).1, (hin c hc).2, rfl, h1 rfl⟩
  rw [all_true]
  refine ifF rfl ⟨rfl, ?_⟩
  have hcut : Dw.cutD (g.map PyData.int) (some 1) none = (g.drop 1).map PyData.int := by
    unfold Dw.cutD
    rw [show HT.sIx (g.map PyData.int).length 0 (some 1) = min 1 (g.map PyData.int).length from HT.sIx_nat (g.map PyData.int).length 0 1, HT.sIx_none]
    cases g with
    | nil => rfl
    | cons x r =>
      rw [show min 1 ((x :: r).map PyData.int).length = 1 by simp]
      show (r.map PyData.int).take (((x :: r).map PyData.int).length - 1) = r.map PyData.int
      rw [List.take_of_length_le (by simp)]
  rw [hcut]
  have hz : ∀ (a b : List Int), zipD (a.map PyData.int) (b.map PyData.int) = (a.zip b).map fun p => PyData.tuple [.int p.1, .int p.2] := by
    intro a
    induction a with
    | nil => intro b; cases b <;> rfl
    | cons x r ih =>
      intro b
      cases b with
      | nil => rfl
      | cons y s =>
        show PyData.tuple [.int x, .int y] :: zipD (r.map PyData.int) (s.map PyData.int) = _
        rw [ih s]; rfl
  have hasc : ∀ (a : List Int), a.Pairwise (· < ·) → ∀ p ∈ a.zip (a.drop 1), p.1 < p.2 := by
    intro a
    induction a with
    | nil => intro _ p hp; cases hp
    | cons x r ih =>
      intro ha p hp
      cases r with
      | nil => cases hp
      | cons y s =>
        have hp : p ∈ (x, y) :: (y :: s).zip ((y :: s).drop 1) := hp
        rcases List.mem_cons.mp hp with rfl | hp
        · exact (List.pairwise_cons.mp ha).1 y List.mem_cons_self
        · exact ih (List.pairwise_cons.mp ha).2 p hp
  show (_ ∧ _) ∧ _
  rw [hz]
  refine ⟨⟨by simp; omega, rfl⟩, ?_⟩
  refine go_map (fun _ => .bool true) _ [] (fun x hx C C' h1 h2 => ?_) (all_ok _ (map_true _ _ _ fun _ _ => rfl) (by rw [all_true]; exact h))
  obtain ⟨p, hp, rfl⟩ := List.mem_map.mp hx
  refine ⟨rfl, rfl, ?_⟩
  walk_at "ds"
  rw [decide_eq_true (hasc g hasc0 p hp)]
  exact h1 rfl
theorem hS_are_columns : ∀ δ P, S_are_columns δ P → ArgOk 2 δ ∧ wb_are_columns (endsOf δ P) (δ ++ List.replicate (2 - 2) Sl.un) := by
  rintro δ P ⟨m, g, rfl, hg, h⟩
  refine ⟨argD [.int m, iT g], ?_⟩
  unfold wb_are_columns
  walk_at "ds"
  exact ⟨rfl, g, 0, m - 1, rfl, by have := hg.few; omega, hg.asc, fun c hc => by have := hg.inn c hc; omega, h⟩
theorem inD_int (x : Int) : ∀ g : List Int, inD (.int x) (g.map PyData.int) = decide (x ∈ g)
  | [] => rfl
  | y :: r => by
    show (PyData.eqv (.int y) (.int x) || inD (.int x) (r.map PyData.int)) = _
    rw [eqv_int, inD_int x r]
    by_cases h : y = x
    · subst h; simp
    · have : ¬ x = y := fun z => h z.symm
      simp [h, this]
theorem flat_ints (g : List Int) : (g.map PyData.int).all flat = true := by
  induction g with
  | nil => rfl
  | cons x r ih => exact ih
theorem hS_is_rule : ∀ δ P, S_is_rule δ P → ArgOk 2 δ ∧ wb_is_rule (endsOf δ P) (δ ++ List.replicate (4 - 2) Sl.un) := by
  rintro δ P ⟨m, r, rfl, hr, h⟩
  refine ⟨argD [.int m, ruleD r], ?_⟩
  unfold wb_is_rule ruleD
  walk_at "ds"
  refine ifF rfl (ne_ok (k := true) rfl (by rw [eqv_int]; rfl) (ifF rfl ⟨rfl, ⟨rfl, m, r.1, rfl, hr.cols, ifT rfl ⟨rfl, m, r.2, rfl, hr.lo, hr.hi, ifT rfl ?_⟩⟩⟩))
  refine ⟨⟨rfl, flat_ints _⟩, ?_⟩
  rw [inD_int, decide_eq_false hr.out]
  exact h
theorem hS_need_many : ∀ δ P, S_need_many δ P → ArgOk 1 δ ∧ wb_need_many (endsOf δ P) (δ ++ List.replicate (1 - 1) Sl.un) := by
  rintro δ P ⟨m, rfl, h1, h2, h⟩
  exact ⟨argD [.int m], rfl, m, rfl, h1, h2, ifF rfl h⟩
theorem hS_are_rules : ∀ δ P, S_are_rules δ P → ArgOk 2 δ ∧ wb_are_rules (endsOf δ P) (δ ++ List.replicate (3 - 2) Sl.un) := by
  rintro δ P ⟨m, rs, rfl, h1, h2, hr, h⟩
  refine ⟨argD [.int m, rulesD rs], ?_⟩
  have hf := hr.few
  unfold wb_are_rules rulesD
  walk_at "ds"
  have e : (((rs.map ruleD).length : Nat) : Int) ≤ 8 := by rw [List.length_map]; omega
  refine ⟨rfl, m, rfl, h1, h2, ifT rfl (ifT (decide_eq_true e) ⟨⟨by rw [List.length_map]; omega, rfl⟩, ?_⟩)⟩
  refine go_map (fun _ => .bool true) _ [] (fun x hx C C' h1 h2 => ?_) (all_ok _ (map_true rs ruleD _ fun _ _ => rfl) (by rw [all_true]; exact h))
  obtain ⟨r, hq, rfl⟩ := List.mem_map.mp hx
  exact ⟨rfl, m, r, rfl, hr.all r hq, rfl, h1 rfl⟩
theorem hS_need_rules : ∀ δ P, S_need_rules δ P → ArgOk 2 δ ∧ wb_need_rules (endsOf δ P) (δ ++ List.replicate (2 - 2) Sl.un) := by
  rintro δ P ⟨m, rs, rfl, h1, h2, ht, h⟩
  exact ⟨argD [.int m, rulesD rs], rfl, m, rs, rfl, h1, h2, ht, ifF rfl h⟩
/-! ### blanks, pairs, rules that hold -/
theorem cell_none (c : Option Int) : isNo (cellD c) = c.isNone := by cases c <;> rfl
theorem hS_blanks : ∀ δ P, S_blanks δ P → ArgOk 1 δ ∧ wb_blanks (endsOf δ P) (δ ++ List.replicate (5 - 1) Sl.un) := by
  rintro δ P ⟨m, rs, rfl, ht, h⟩
  refine ⟨argD [tabD m rs], ?_⟩
  have hf := ht.few
  have h5 := ht.hi
  unfold wb_blanks
  walk_at "ds"
  refine ⟨rfl, m, rs, rfl, ht, ?_⟩
  unfold tabD rowsD
  refine tupix rfl ?_
  walk_at "ds"
  refine ⟨⟨by rw [enumD_len, List.length_map]; omega, rfl⟩, ?_⟩
  have hz : enumD 0 (rs.map rowD) = rs.zipIdx.map fun p => PyData.tuple [.int (p.2 : Nat), rowD p.1] := by
    rw [enumD_eq, List.zipIdx_map, List.map_map]
    rfl
  rw [hz]
  refine go2_pure (fun x => match x with
    | .tuple [.int i, .tuple cs] => (cs.zipIdx.filter fun q => isNo q.1).map fun q => PyData.tuple [.int i, .int (q.2 : Nat)]
    | _ => []) _ [] (fun x hx acc C hC => ?_) ?_
  · obtain ⟨⟨r, i⟩, hp, rfl⟩ := List.mem_map.mp hx
    have hr : RowOk m r := ht.rows r (List.fst_mem_of_mem_zipIdx hp)
    have hl := hr.1
    refine ⟨rfl, ?_⟩
    unfold rowD
    walk_at "ds"
    refine ifT rfl ⟨⟨by rw [enumD_len, List.length_map]; omega, rfl⟩, ?_⟩
    rw [enumD_eq]
    refine go_pure (fun y => match y with
      | .tuple [_, c] => isNo c
      | _ => false) (fun y => match y with
      | .tuple [j, _] => .tuple [.int i, j]
      | _ => .none) _ acc (fun y hy C1 C2 h1 h2 => ?_) ?_
    · obtain ⟨⟨c, j⟩, hq, rfl⟩ := List.mem_map.mp hy
      refine ⟨rfl, ?_⟩
      walk_at "ds"
      cases e : isNo c with
      | true => exact is_ok e (ifT rfl ⟨⟨rfl, by simp⟩, rfl, h1 e⟩)
      | false => exact is_ok e (ifF rfl (h2 e))
    · have hC : C (acc ++ (((r.map cellD).zipIdx.filter fun q => isNo q.1).map fun q => PyData.tuple [.int i, .int (q.2 : Nat)])) _ := hC
      rw [List.filter_map, List.map_map]
      exact hC
  · have e : (rs.zipIdx.map fun p => PyData.tuple [.int (p.2 : Nat), rowD p.1]).flatMap (fun x => match x with
        | .tuple [.int i, .tuple cs] => (cs.zipIdx.filter fun q => isNo q.1).map fun q => PyData.tuple [.int i, .int (q.2 : Nat)]
        | _ => []) = (blanksOf rs).map pairD := by
      unfold blanksOf
      rw [List.flatMap_map, List.map_flatMap]
      congr 1
      funext p
      show (((p.1.map cellD).zipIdx.filter fun q => isNo q.1).map fun q => PyData.tuple [.int (p.2 : Nat), .int (q.2 : Nat)]) = _
      rw [List.zipIdx_map, List.filter_map, List.map_map, List.map_map]
      have : ((fun q : PyData × Nat => isNo q.1) ∘ Prod.map cellD id) = fun q : Option Int × Nat => q.1.isNone := by
        funext q; exact cell_none q.1
      rw [this]
      rfl
    rw [List.nil_append, e]
    exact h
theorem hS_need_full : ∀ δ P, S_need_full δ P → ArgOk 1 δ ∧ wb_need_full (endsOf δ P) (δ ++ List.replicate (1 - 1) Sl.un) := by
  rintro δ P ⟨m, rs, rfl, ht, hf, h⟩
  refine ⟨argD [tabD m rs], rfl, m, rs, rfl, ht, ?_⟩
  have e : blanksOf rs = [] := by
    unfold blanksOf
    refine List.flatMap_eq_nil_iff.mpr fun p hp => ?_
    rw [List.map_eq_nil_iff, List.filter_eq_nil_iff]
    intro q hq
    have h1 : p.1 ∈ rs := List.fst_mem_of_mem_zipIdx hp
    have h2 : q.1 ∈ p.1 := List.fst_mem_of_mem_zipIdx hq
    have := hf p.1 h1 q.1 h2
    cases hc : q.1 with
    | none => exact absurd hc this
    | some v => simp
  rw [e]
  exact h
theorem hS_row_pairs : ∀ δ P, S_row_pairs δ P → ArgOk 1 δ ∧ wb_row_pairs (endsOf δ P) (δ ++ List.replicate (3 - 1) Sl.un) := by
  rintro δ P ⟨n, rfl, hn, h⟩
  refine ⟨argD [.int n], ?_⟩
  unfold wb_row_pairs
  walk_at "ds"
  refine ⟨⟨by omega, by omega⟩, ⟨by rw [rangeD_len]; omega, rfl⟩, ?_⟩
  refine go2_pure (fun x => match x with
    | .int i => (List.range (n - (i.toNat + 1))).map fun j => PyData.tuple [.int i, .int (i + 1 + (j : Nat))]
    | _ => []) _ [] (fun x hx acc C hC => ?_) ?_
  · obtain ⟨i, hi, rfl⟩ := mem_range hx
    walk_at "ds"
    refine ifT rfl ⟨by omega, ⟨by rw [rangeD_len]; omega, rfl⟩, ?_⟩
    refine go_map (fun y => .tuple [.int (0 + (i : Int)), y]) _ acc (fun y hy C1 C2 h1 h2 => ?_) ?_
    · exact ⟨⟨rfl, by simp⟩, rfl, h1 rfl⟩
    · have e : (rangeD (0 + (i : Int) + 1) ((n : Int) - (0 + (i : Int) + 1)).toNat).map (fun y => PyData.tuple [.int (0 + (i : Int)), y]) = (List.range (n - ((0 + (i : Int)).toNat + 1))).map fun j => PyData.tuple [.int (0 + (i : Int)), .int (0 + (i : Int) + 1 + (j : Nat))] := by
        rw [rangeD_eq, List.map_map, show ((n : Int) - (0 + (i : Int) + 1)).toNat = n - ((0 + (i : Int)).toNat + 1) by omega]
        rfl
      rw [e]
      exact hC
  · have e : (rangeD 0 (n : Int).toNat).flatMap (fun x => match x with
        | .int i => (List.range (n - (i.toNat + 1))).map fun j => PyData.tuple [.int i, .int (i + 1 + (j : Nat))]
        | _ => []) = (pairs n).map pairD := by
      unfold pairs
      rw [rangeD_eq, List.flatMap_map, List.map_flatMap, show (n : Int).toNat = n by omega]
      congr 1
      funext i
      show ((List.range (n - ((0 + (i : Int)).toNat + 1))).map fun j => PyData.tuple [.int (0 + (i : Int)), .int (0 + (i : Int) + 1 + (j : Nat))]) = _
      rw [List.map_map, show (0 + (i : Int)).toNat = i by omega, show (0 + (i : Int)) = ((i : Nat) : Int) by omega]
      rfl
    rw [List.nil_append, e]
    exact h
theorem eqv_cell (a b : Option Int) : PyData.eqv (cellD a) (cellD b) = decide (a = b) := by
  cases a with
  | none =>
    cases b with
    | none => show PyData.eqv .none .none = _; unfold PyData.eqv; rfl
    | some y => show PyData.eqv .none (.int y) = _; unfold PyData.eqv; rfl
  | some x =>
    cases b with
    | none => show PyData.eqv (.int x) .none = _; unfold PyData.eqv; rfl
    | some y => show PyData.eqv (.int x) (.int y) = _; rw [eqv_int]; simp
theorem ok_cell (a b : Option Int) : eqOk (cellD a) (cellD b) = true := by cases a <;> cases b <;> rfl
theorem at_row {r : Cells} {c : Int} (h0 : 0 ≤ c) (h1 : c < r.length) : atI (r.map cellD) c = some (cellD (at_ r c)) := by
  refine atI_of h0 ?_
  have h : c.toNat < r.length := by omega
  rw [List.getElem?_map, List.getElem?_eq_getElem h]
  unfold at_
  rw [List.getD_eq_getElem?_getD, List.getElem?_eq_getElem h]
  rfl
theorem rowix {r : Cells} {c : Int} {P : Rv → Prop} (h0 : 0 ≤ c) (h1 : c < r.length) (h : P (.d (cellD (at_ r c)))) : rIxD (rowD r) (.int c) P := tupix (at_row h0 h1) h
theorem hS_equal_in : ∀ δ P, S_equal_in δ P → ArgOk 3 δ ∧ wb_equal_in (endsOf δ P) (δ ++ List.replicate (4 - 3) Sl.un) := by
  rintro δ P ⟨g, a, b, rfl, hg, hc, h⟩
  refine ⟨argD [iT g, rowD a, rowD b], ?_⟩
  unfold wb_equal_in iT rowD
  walk_at "ds"
  refine ⟨⟨by rw [List.length_map]; omega, rfl⟩, ?_⟩
  refine go_map (fun x => match x with
    | .int c => .bool (decide (at_ a c = at_ b c))
    | _ => .none) _ [] (fun x hx C C' h1 h2 => ?_) ?_
  · obtain ⟨c, hm, rfl⟩ := List.mem_map.mp hx
    obtain ⟨q1, q2, q3⟩ := hc c hm
    walk_at "ds"
    refine ifT rfl ?_
    refine tupix (at_row q1 q2) ?_
    refine tupix (at_row q1 q3) ?_
    walk_at "ds"
    refine eq_ok (ok_cell _ _) (eqv_cell _ _) ?_
    exact ⟨rfl, h1 rfl⟩
  · refine all_ok (g.map fun c => decide (at_ a c = at_ b c)) ?_ ?_
    · rw [List.nil_append, List.map_map, List.map_map]
      rfl
    · rw [List.all_map]
      exact h
theorem rows_at {m : Int} {rs : List Cells} (ht : TabOk m rs) {i : Nat} (hi : i < rs.length) : atI (rs.map rowD) (i : Int) = some (rowD (rs.getD i [])) ∧ RowOk m (rs.getD i []) := by
  have e : rs[i]? = some rs[i] := List.getElem?_eq_getElem hi
  have e2 : rs.getD i [] = rs[i] := by rw [List.getD_eq_getElem?_getD, e]; rfl
  rw [e2]
  refine ⟨atI_nat ?_, ht.rows _ (List.getElem_mem hi)⟩
  rw [List.getElem?_map, e]
  rfl
theorem mem_pairs {n : Nat} {p : Nat × Nat} (h : p ∈ pairs n) : p.1 < n ∧ p.2 < n := by
  unfold pairs at h
  obtain ⟨i, hi, h⟩ := List.mem_flatMap.mp h
  obtain ⟨j, hj, rfl⟩ := List.mem_map.mp h
  have := List.mem_range.mp hi
  have := List.mem_range.mp hj
  exact ⟨by show i < n; omega, by show i + 1 + j < n; omega⟩
def unpair : PyData → Nat × Nat
  | .tuple [.int i, .int j] => (i.toNat, j.toNat)
  | _ => (0, 0)
theorem unpair_pair (p : Nat × Nat) : unpair (pairD p) = p := by
  show ((p.1 : Int).toNat, (p.2 : Int).toNat) = p
  rw [Int.toNat_natCast, Int.toNat_natCast]
theorem pairs_len (n : Nat) : (pairs n).length ≤ n * n := by
  unfold pairs
  rw [List.length_flatMap]
  have : ∀ (l : List Nat), (l.map fun i => ((List.range (n - (i + 1))).map fun j => (i, i + 1 + j)).length).sum ≤ l.length * n := by
    intro l
    induction l with
    | nil => simp
    | cons x r ih =>
      rw [List.map_cons, List.sum_cons, List.length_cons, Nat.succ_mul]
      have : ((List.range (n - (x + 1))).map fun j => (x, x + 1 + j)).length ≤ n := by rw [List.length_map, List.length_range]; omega
      omega
  have h := this (List.range n)
  rw [List.length_range] at h
  exact h
theorem hS_breaking_pairs : ∀ δ P, S_breaking_pairs δ P → ArgOk 2 δ ∧ wb_breaking_pairs (endsOf δ P) (δ ++ List.replicate (6 - 2) Sl.un) := by
  rintro δ P ⟨m, rs, r, rfl, ht, hr, h⟩
  refine ⟨argD [rowsD rs, ruleD r], ?_⟩
  have hf := ht.few
  unfold wb_breaking_pairs rowsD ruleD
  walk_at "ds"
  refine ⟨rfl, rfl, rs.length, by rw [List.length_map], by omega, ?_⟩
  have hp := pairs_len rs.length
  have hp2 : rs.length * rs.length ≤ 8 * 8 := Nat.mul_le_mul hf hf
  refine ⟨⟨by rw [List.length_map]; omega, rfl⟩, ?_⟩
  refine go_pure (fun x => brkT rs r (unpair x)) id _ [] (fun x hx C C' h1 h2 => ?_) ?_
  · obtain ⟨p, hm, rfl⟩ := List.mem_map.mp hx
    dsimp only at h1 h2
    rw [unpair_pair] at h1 h2
    obtain ⟨q1, q2⟩ := mem_pairs hm
    obtain ⟨e1, o1⟩ := rows_at ht q1
    obtain ⟨e2, o2⟩ := rows_at ht q2
    have l1 := o1.1
    have l2 := o2.1
    refine ⟨rfl, ?_⟩
    walk_at "ds"
    refine tupix e1 (tupix e2 ?_)
    refine ⟨rfl, r.1, _, _, rfl, by have := hr.cols.few; omega, fun c hc => ?_, ?_⟩
    · have := hr.cols.inn c hc
      omega
    walk_at "ds"
    cases eq : eqIn r.1 (rs.getD p.1 []) (rs.getD p.2 []) with
    | false =>
      have : brkT rs r p = false := by unfold brkT; rw [eq]; rfl
      exact ifF rfl (ifF rfl (h2 this))
    | true =>
      refine ifT rfl ?_
      have hh := hr.hi
      refine tupix e1 ?_
      walk_at "ds"
      refine rowix hr.lo (by omega) ?_
      refine tupix e2 ?_
      walk_at "ds"
      refine rowix hr.lo (by omega) ?_
      walk_at "ds"
      refine ne_ok (ok_cell _ _) (eqv_cell _ _) ?_
      walk_at "ds"
      have eb : brkT rs r p = !decide (at_ (rs.getD p.1 []) r.2 = at_ (rs.getD p.2 []) r.2) := by unfold brkT; rw [eq]; rfl
      cases et : (!decide (at_ (rs.getD p.1 []) r.2 = at_ (rs.getD p.2 []) r.2)) with
      | true =>
        rw [et] at eb
        exact ifT rfl ⟨⟨rfl, by simp⟩, rfl, h1 eb⟩
      | false =>
        rw [et] at eb
        exact ifF rfl (h2 eb)
  · have e : (((pairs rs.length).map pairD).filter fun x => brkT rs r (unpair x)).map id = (brk rs r).map pairD := by
      rw [List.map_id, List.filter_map]
      rfl
    rw [List.nil_append, e]
    exact h
theorem eqv_nil (xs : List PyData) : PyData.eqv (.tuple xs) (.tuple []) = xs.isEmpty := by
  unfold PyData.eqv
  cases xs with
  | nil => unfold PyData.eqvAll; rfl
  | cons x r => unfold PyData.eqvAll; rfl
theorem shaped_pairs (ps : List (Nat × Nat)) : SeqAt.shaped (pairsD ps) = true := by
  have h1 : ∀ ps : List (Nat × Nat), PyData.canLayAll0 (ps.map pairD) = true ∧ PyData.depthAll (ps.map pairD) ≤ 1 := by
    intro ps
    induction ps with
    | nil => exact ⟨rfl, by simp [PyData.depthAll]⟩
    | cons p r ih =>
      refine ⟨?_, ?_⟩
      · simp only [List.map_cons, PyData.canLayAll0, ih.1, pairD, PyData.canLay0, Bool.and_self]
      · simp only [List.map_cons, PyData.depthAll, pairD, PyData.depth]
        have := ih.2
        omega
  unfold SeqAt.shaped
  rw [Bool.and_eq_true]
  refine ⟨?_, decide_eq_true ?_⟩
  · unfold pairsD
    simp only [PyData.canLay0]
    exact (h1 ps).1
  · unfold pairsD
    simp only [PyData.depth]
    have := (h1 ps).2
    omega
theorem hS_hold_in : ∀ δ P, S_hold_in δ P → ArgOk 2 δ ∧ wb_hold_in (endsOf δ P) (δ ++ List.replicate (3 - 2) Sl.un) := by
  rintro δ P ⟨m, rs, rl, rfl, ht, hr, h⟩
  refine ⟨argD [rowsD rs, rulesD rl], ?_⟩
  have hf := hr.few
  unfold wb_hold_in rulesD
  walk_at "ds"
  refine ⟨⟨by rw [List.length_map]; omega, rfl⟩, ?_⟩
  refine go_map (fun x => match x with
    | .tuple [.tuple g, .int t] => .bool (brk rs ((g.map fun y => match y with | .int i => i | _ => 0), t)).isEmpty
    | _ => .none) _ [] (fun x hx C C' h1 h2 => ?_) ?_
  · obtain ⟨r, hm, rfl⟩ := List.mem_map.mp hx
    have er : ((r.1.map PyData.int).map fun y => match y with | PyData.int i => i | _ => 0) = r.1 := by
      rw [List.map_map]
      exact List.map_id r.1
    walk_at "ds"
    refine ifT rfl ?_
    refine ⟨rfl, m, rs, r, rfl, ht, hr.all r hm, ?_⟩
    walk_at "ds"
    refine ⟨⟨rfl, by simp⟩, ?_⟩
    refine eq_ok (k := (brk rs r).isEmpty) ?_ ?_ ?_
    · show (SeqAt.shaped (pairsD (brk rs r)) && SeqAt.shaped (.tuple [])) = true
      rw [shaped_pairs]
      rfl
    · show PyData.eqv (.tuple _) (.tuple []) = _
      rw [eqv_nil, List.isEmpty_map]
    · refine ⟨rfl, ?_⟩
      have h1 : C (.bool (brk rs (((r.1.map PyData.int).map fun y => match y with | PyData.int i => i | _ => 0), r.2)).isEmpty) _ := h1 rfl
      rw [er] at h1
      exact h1
  · refine all_ok (rl.map fun r => (brk rs r).isEmpty) ?_ ?_
    · rw [List.nil_append, List.map_map, List.map_map]
      refine List.map_congr_left fun r _ => ?_
      show PyData.bool (brk rs (((r.1.map PyData.int).map fun y => match y with | PyData.int i => i | _ => 0), r.2)).isEmpty = _
      have er : ((r.1.map PyData.int).map fun y => match y with | PyData.int i => i | _ => 0) = r.1 := by
        rw [List.map_map]
        exact List.map_id r.1
      rw [er]
      rfl
    · rw [List.all_map]
      exact h
theorem hS_holds : ∀ δ P, S_holds δ P → ArgOk 2 δ ∧ wb_holds (endsOf δ P) (δ ++ List.replicate (2 - 2) Sl.un) := by
  rintro δ P ⟨m, rs, rl, rfl, ht, hu, hr, h⟩
  refine ⟨argD [tabD m rs, rulesD rl], ?_⟩
  unfold wb_holds
  walk_at "ds"
  refine ⟨rfl, m, rs, rfl, ht, ?_⟩
  refine tupix (xs := [.int m, rowsD rs]) rfl ⟨rfl, m, rl, rfl, ht.lo, ht.hi, hr, ?_⟩
  refine ⟨rfl, m, rs, rfl, ht, hu, ?_⟩
  refine tupix (xs := [.int m, rowsD rs]) rfl ⟨rfl, m, rs, rl, rfl, ht, hr, h⟩
theorem hS_breaking : ∀ δ P, S_breaking δ P → ArgOk 2 δ ∧ wb_breaking (endsOf δ P) (δ ++ List.replicate (2 - 2) Sl.un) := by
  rintro δ P ⟨m, rs, r, rfl, ht, hu, hr, h⟩
  refine ⟨argD [tabD m rs, ruleD r], ?_⟩
  unfold wb_breaking
  walk_at "ds"
  refine ⟨rfl, m, rs, rfl, ht, ?_⟩
  refine tupix (xs := [.int m, rowsD rs]) rfl ⟨rfl, m, r, rfl, hr, ifF rfl ?_⟩
  refine ⟨rfl, m, rs, rfl, ht, hu, ?_⟩
  exact tupix (xs := [.int m, rowsD rs]) rfl ⟨rfl, m, rs, r, rfl, ht, hr, h⟩
end B

namespace B
open PySem PySem.Spec PyProof.Rows L2 Dw
local macro_rules | `(tactic| walk_at "ds") => `(tactic| try dsimp only [wRet, wRetN, wThen, wIfS, wIf, wNotT, wTru, wB, w2, wV, wC, wCons, wNil, wCall, wCallO, wCallO1, endO, wCB, wLc, wSeq, wYes, wNext, wNever, wDrop, wSet, wAsg, wPair, wFor, wTup, wLst, wAndV, wOrV, wNotV, wNeg, wAndT, wOrT, wIsi, wChain, wSlice, wPart, wNo, wZip, wEnum, wRng1, wRng2, wLc2, wApp, wApp1, wPop, wPop1, wExt, wExt1, wSetI, wSetI1, wSetD, wIdx, wIdx1, wExtL, wExtL1, wLenM, wNotInM, wGetM, wPutM, wPutM1, wSetK, wTri, wForget, rCatTD, rCatLD, intsR, Option.map_some, bN, bTup, bCons, bNil, as_d, as_l, as_b, noB_d, noB_l, still_d, still_l, still_b, put_d, put_l, tru_bool, tru_tup, tru_lst, isT_tup, isI_int, isB_int, stillA_nil, stillA_cons, map0, map1, map2, map3, len_l, len_t, tup_l, tup_t, lst_l, lst_t, max_i, min_i, List.all_cons, List.all_nil, Bool.and_self, Bool.and_true, Bool.not_true, Bool.not_false, List.getElem?_cons_zero, List.getElem?_cons_succ, List.cons_append, List.nil_append, List.append_nil, List.reduceReplicate, Nat.reduceSub, Nat.sub_self, rI1, rI2, rAddD, rSubD, rMulD, rDivD, rModD, rPowD, rLtD, rLeD, rGtD, rGeD, List.set_cons_zero, List.set_cons_succ, List.set_nil, endsOf, outD, wipeD])
/-! ### the pen and what is drawn -/
def Pen (n : Nat) (xs : List PyData) : Prop := ∃ a b c : Int, xs = [.int a, .int b, .int c] ∧ 0 ≤ a ∧ 0 ≤ b ∧ b < 1000000007 ∧ 0 ≤ c ∧ c ≤ n
theorem Pen.mono {n k : Nat} {xs : List PyData} (h : Pen n xs) (hk : n ≤ k) : Pen k xs := by
  obtain ⟨a, b, c, e, h1, h2, h3, h4, h5⟩ := h
  exact ⟨a, b, c, e, h1, h2, h3, h4, by omega⟩
def S_law_cell_at : WE := fun δ P => ∃ (ns : List Int) (k : Int), δ = [.d (.list (ns.map PyData.int)), .d (.int k)] ∧ 0 ≤ k ∧ ∀ v : Int, P (.d (.int v)) δ
def S_law_pen : WE := fun δ P => ∃ c : Int, δ = [.d (.int c)] ∧ ∀ xs, Pen 0 xs → P (.l xs) δ
def S_law_draw : WE := fun δ P => ∃ xs n m, δ = [.o xs, .d (.int m)] ∧ Pen n xs ∧ n ≤ 1000000 ∧ 1 ≤ m ∧ m ≤ 1000000 ∧ ∀ ys d, Pen (n + 1) ys → 0 ≤ d → d < m → P (.d (.int d)) [.o ys, .d (.int m)]
def S_law_rule : WE := fun δ P => ∃ xs n m, δ = [.o xs, .d (.int m)] ∧ Pen n xs ∧ n ≤ 999000 ∧ 1 ≤ m ∧ m ≤ 5 ∧ ∀ ys r, Pen (n + 10) ys → RuleOk m r → P (.d (ruleD r)) [.o ys, .d (.int m)]
def S_law_rules : WE := fun δ P => ∃ xs n m k, δ = [.o xs, .d (.int m), .d (.int k)] ∧ Pen n xs ∧ n ≤ 990000 ∧ 1 ≤ m ∧ m ≤ 5 ∧ 0 ≤ k ∧ k ≤ 8 ∧ ∀ ys rs, Pen (n + 100) ys → RulesOk m rs → P (.d (rulesD rs)) [.o ys, .d (.int m), .d (.int k)]
def S_law_same : WE := fun δ P => ∃ x, δ = [.d x, .d x] ∧ showOk x ∧ P (.d (.bool true)) δ
/-- slots: 0 law_script, 1 law_k -/
def wb_law_cell_at : WS := (wThen (wIfS (wB (w2 rLtD (wV 1) (wCB rLenD (wCons (wV 0) wNil)))) (wRet (w2 rIxD (wV 0) (wV 1))) wNext)
      (wRet (wC (.int 0))))
/-- slots: 0 law_cell -/
def wb_law_pen : WS := (wRet (wLst (wCons (wCB rMax2D (wCons (wC (.int 0)) (wCons (w2 rSubD (wV 0) (w2 rPowD (wC (.int 10)) (wC (.int 18)))) wNil))) (wCons (w2 rModD (wV 0) (wC (.int 1000000007))) (wCons (wC (.int 0)) wNil)))))
/-- slots: 0 law_pen_here, 1 law_many, 2 law_stir, 3 law_digit -/
def wb_law_draw : WS := (wThen (wIfS (wB (w2 rGtD (w2 rIxD (wV 0) (wC (.int 0))) (wC (.int 0)))) (wThen (wSet 3 (w2 rModD (w2 rIxD (wV 0) (wC (.int 0))) (wV 1)))
      (wThen (wSetI 0 (wC (.int 0)) (w2 rDivD (w2 rIxD (wV 0) (wC (.int 0))) (wV 1)))
      (wRet (wV 3)))) wNext)
      (wThen (wSetI 0 (wC (.int 2)) (w2 rAddD (w2 rIxD (wV 0) (wC (.int 2))) (wC (.int 1))))
      (wThen (wSet 2 (w2 rModD (w2 rMulD (w2 rAddD (w2 rIxD (wV 0) (wC (.int 1))) (w2 rMulD (wC (.int 17)) (w2 rIxD (wV 0) (wC (.int 2))))) (w2 rAddD (wC (.int 69621)) (w2 rMulD (wC (.int 2)) (w2 rIxD (wV 0) (wC (.int 2)))))) (wC (.int 2147483647))))
      (wThen (wSet 2 (w2 rModD (w2 rAddD (w2 rAddD (w2 rMulD (wV 2) (wV 2)) (w2 rMulD (wC (.int 40503)) (w2 rIxD (wV 0) (wC (.int 2))))) (wC (.int 5))) (wC (.int 2147483629))))
      (wRet (w2 rModD (w2 rDivD (w2 rModD (w2 rMulD (wV 2) (wC (.int 48271))) (wC (.int 2147483647))) (wC (.int 32))) (wV 1)))))))
/-- slots: 0 law_found, 1 law_due -/
def wb_law_same : WS := (wRet (w2 rEqT (wCB rReprD (wCons (wV 0) wNil)) (wCB rReprD (wCons (wV 1) wNil))))
/-- slots: 0 law_pen_here, 1 law_many, 2 law_then, 3 law_others, 4 law_size, 5 law_given, 6 law_lap, 7 law_column -/
def wb_law_rule : WS := (wThen (wSet 2 (wCallO S_law_draw 0 (wCons (wV 1) wNil)))
      (wThen (wSet 3 (wLc (wRng1 (wCons (wV 1) wNil)) (bN 7) (wB (w2 rNeT (wV 7) (wV 2))) (wV 7) [7]))
      (wThen (wSet 4 (w2 rIxD (wLst (wCons (wC (.int 1)) (wCons (wC (.int 1)) (wCons (wC (.int 2)) (wCons (wC (.int 1)) (wCons (wC (.int 0)) (wCons (wC (.int 3)) (wCons (wC (.int 4)) wNil)))))))) (wCallO S_law_draw 0 (wCons (wC (.int 7)) wNil))))
      (wThen (wSet 5 (wLst wNil))
      (wThen (wFor (wRng1 (wCons (wCB rMin2D (wCons (wV 4) (wCons (wCB rLenD (wCons (wV 3) wNil)) wNil))) wNil)) (bN 6) (wDrop (wApp 5 (wPop 3 (wCallO S_law_draw 0 (wCons (wCB rLenD (wCons (wV 3) wNil)) wNil))))))
      (wRet (wTup (wCons (wCB rTupleD (wCons (wCB rSortedD (wCons (wV 5) wNil)) wNil)) (wCons (wV 2) wNil)))))))))
/-- slots: 0 law_pen_here, 1 law_many, 2 law_most, 3 law_lap -/
def wb_law_rules : WS := (wRet (wCB rTupleD (wCons (wLc (wRng1 (wCons (wCallO S_law_draw 0 (wCons (w2 rAddD (wV 2) (wC (.int 1))) wNil)) wNil)) (bN 3) wYes (wCallO S_law_rule 0 (wCons (wV 1) wNil)) [3]) wNil)))
theorem lstix {xs : List PyData} {i : Int} {z : PyData} {P : Rv → Prop} (e : atI xs i = some z) (h : P (.d z)) : rIxD (.list xs) (.int i) P := by
  unfold Dw.rIxD
  simp only [e]
  exact h
theorem hS_law_cell_at : ∀ δ P, S_law_cell_at δ P → ArgOk 2 δ ∧ wb_law_cell_at (endsOf δ P) (δ ++ List.replicate (2 - 2) Sl.un) := by
  rintro δ P ⟨ns, k, rfl, hk, h⟩
  refine ⟨argD [.list (ns.map PyData.int), .int k], ?_⟩
  unfold wb_law_cell_at
  walk_at "ds"
  refine ite2 (fun e => ?_) (fun e => h 0)
  have e := of_decide_eq_true e
  rw [List.length_map] at e
  have hl : k.toNat < ns.length := by omega
  refine lstix (z := .int ns[k.toNat]) (atI_of hk ?_) (h _)
  rw [List.getElem?_map, List.getElem?_eq_getElem hl]
  rfl
theorem hS_law_pen : ∀ δ P, S_law_pen δ P → ArgOk 1 δ ∧ wb_law_pen (endsOf δ P) (δ ++ List.replicate (1 - 1) Sl.un) := by
  rintro δ P ⟨c, rfl, h⟩
  refine ⟨argD [.int c], ?_⟩
  unfold wb_law_pen
  walk_at "ds"
  refine ⟨⟨by decide, by decide, by decide⟩, ⟨by decide, ⟨rfl, by simp⟩, h _ ⟨_, _, _, rfl, ?_, ?_, ?_, by decide, by decide⟩⟩⟩
  · split <;> omega
  · exact Int.emod_nonneg _ (by decide)
  · exact Int.emod_lt_of_pos _ (by decide)
theorem hS_law_draw : ∀ δ P, S_law_draw δ P → ArgOk 2 δ ∧ wb_law_draw (endsOf δ P) (δ ++ List.replicate (4 - 2) Sl.un) := by
  rintro δ P ⟨xs, n, m, rfl, ⟨a, b, c, rfl, h1, h2, h3, h4, h5⟩, hn, hm, hm2, h⟩
  refine ⟨argO _ [.int m], ?_⟩
  unfold wb_law_draw
  walk_at "ds"
  refine ⟨rfl, lstix rfl ?_⟩
  walk_at "ds"
  refine ite2 (fun e => ?_) (fun e => ?_)
  · refine ⟨rfl, lstix rfl ?_⟩
    walk_at "ds"
    refine ⟨by omega, ?_⟩
    walk_at "ds"
    refine ⟨rfl, lstix rfl ?_⟩
    walk_at "ds"
    refine ⟨⟨by omega, by omega⟩, rfl, ?_⟩
    exact h _ _ ⟨a / m, b, c, rfl, Int.ediv_nonneg h1 (by omega), h2, h3, h4, by omega⟩ (Int.emod_nonneg _ (by omega)) (Int.emod_lt_of_pos _ (by omega))
  · refine ⟨rfl, lstix rfl ?_⟩
    walk_at "ds"
    refine ⟨rfl, ?_⟩
    show _ ∧ _
    refine ⟨rfl, lstix rfl ?_⟩
    walk_at "ds"
    refine ⟨rfl, lstix rfl ?_⟩
    walk_at "ds"
    have q1 := Int.emod_nonneg ((b + 17 * (c + 1)) * (69621 + 2 * (c + 1))) (show (2147483647 : Int) ≠ 0 by decide)
    have q2 := Int.emod_lt_of_pos ((b + 17 * (c + 1)) * (69621 + 2 * (c + 1))) (show (0 : Int) < 2147483647 by decide)
    refine ⟨.inl ⟨by decide, by decide⟩, rfl, lstix rfl ?_⟩
    walk_at "ds"
    refine ⟨.inl ⟨by decide, by decide⟩, .inl ⟨by omega, by omega⟩, by decide, .inl ⟨by omega, by omega⟩, rfl, lstix rfl ?_⟩
    walk_at "ds"
    refine ⟨.inl ⟨by decide, by decide⟩, by decide, .inr ⟨by decide, by decide⟩, by decide, ⟨by decide, by decide⟩, by omega, ?_⟩
    exact h _ _ ⟨a, b, c + 1, rfl, h1, h2, h3, by omega, by omega⟩ (Int.emod_nonneg _ (by omega)) (Int.emod_lt_of_pos _ (by omega))
theorem str_eq (x : Str) : PyData.eqv (.str x) (.str x) = true := by
  unfold PyData.eqv
  exact beq_self_eq_true x
theorem hS_law_same : ∀ δ P, S_law_same δ P → ArgOk 2 δ ∧ wb_law_same (endsOf δ P) (δ ++ List.replicate (2 - 2) Sl.un) := by
  rintro δ P ⟨x, rfl, hx, h⟩
  refine ⟨argD [x, x], ?_⟩
  unfold wb_law_same
  walk_at "ds"
  refine ⟨hx, ?_⟩
  walk_at "ds"
  refine ⟨hx, ?_⟩
  walk_at "ds"
  exact eq_ok rfl (str_eq _) h
theorem hS_law_rules : ∀ δ P, S_law_rules δ P → ArgOk 3 δ ∧ wb_law_rules (endsOf δ P) (δ ++ List.replicate (4 - 3) Sl.un) := by
  rintro δ P ⟨xs, n, m, k, rfl, hp, hn, hm, hm2, hk, hk2, h⟩
  refine ⟨argO _ [.int m, .int k], ?_⟩
  unfold wb_law_rules
  walk_at "ds"
  refine ⟨rfl, xs, n, k + 1, rfl, hp, by omega, by omega, by omega, fun ys d hy h0 h4 => ?_⟩
  walk_at "ds"
  refine ⟨⟨by omega, by omega⟩, ⟨by rw [rangeD_len]; omega, rfl⟩, ?_⟩
  refine go_inv d.toNat (fun i acc δ => ∃ zs rs, δ = [.o zs, .d (.int m), .d (.int k), .un] ∧ acc = rs.map ruleD ∧ rs.length = i ∧ (∀ r ∈ rs, RuleOk m r) ∧ Pen (n + 1 + 10 * i) zs) ?_ _ [] _ 0 (by rw [rangeD_len]; omega) ⟨ys, [], rfl, rfl, rfl, by simp, hy⟩ ?_
  · rintro i x acc δ C hi ⟨zs, rs, rfl, rfl, hl, ha, hz⟩ hC
    walk_at "ds"
    refine ifT rfl ⟨rfl, zs, n + 1 + 10 * i, m, rfl, hz, by omega, hm, hm2, fun us r hu hr => ?_⟩
    walk_at "ds"
    refine ⟨rfl, hC _ _ ⟨us, rs ++ [r], rfl, by rw [List.map_append]; rfl, by rw [List.length_append, hl]; rfl, ?_, ?_⟩⟩
    · intro q hq
      rcases List.mem_append.mp hq with hq | hq
      · exact ha q hq
      · obtain rfl : q = r := by simpa using hq
        exact hr
    · exact hu.mono (by omega)
  · rintro acc δ ⟨zs, rs, rfl, rfl, hl, ha, hz⟩
    exact h zs rs (hz.mono (by omega)) ⟨by omega, ha⟩
theorem erase_perm {α : Type} : ∀ (l : List α) (i : Nat) (h : i < l.length), (l[i] :: l.eraseIdx i).Perm l
  | [], i, h => by simp at h
  | x :: r, 0, h => List.Perm.refl _
  | x :: r, i + 1, h => by
    have ih := erase_perm r i (by simpa using h)
    exact (List.Perm.swap x (r[i]'(by simpa using h)) (r.eraseIdx i)).trans (ih.cons x)
theorem erase_map {α β : Type} (f : α → β) : ∀ (l : List α) (i : Nat), (l.map f).eraseIdx i = (l.eraseIdx i).map f
  | [], i => rfl
  | x :: r, 0 => rfl
  | x :: r, i + 1 => by
    show f x :: (r.map f).eraseIdx i = f x :: (r.eraseIdx i).map f
    rw [erase_map f r i]
theorem sorted_ok {ns : List Int} {P : Rv → Prop} (h : ∀ ms : List Int, ms.Perm ns → ms.Pairwise (· ≤ ·) → P (.l (ms.map PyData.int))) : rSortedD [.list (ns.map PyData.int)] P := by
  simp only [rSortedD, Dw.ints_map]
  exact h
theorem hS_law_rule : ∀ δ P, S_law_rule δ P → ArgOk 2 δ ∧ wb_law_rule (endsOf δ P) (δ ++ List.replicate (8 - 2) Sl.un) := by
  rintro δ P ⟨xs, n, m, rfl, hp, hn, hm, hm2, h⟩
  refine ⟨argO _ [.int m], ?_⟩
  unfold wb_law_rule
  walk_at "ds"
  -- then
  refine ⟨rfl, xs, n, m, rfl, hp, by omega, by omega, by omega, fun ys t hy h0 h4 => ?_⟩
  walk_at "ds"
  -- others
  refine ⟨⟨by omega, by omega⟩, ⟨by rw [rangeD_len]; omega, rfl⟩, ?_⟩
  refine go_pure (fun x => match x with | .int c => !decide (c = t) | _ => false) id _ [] (fun x hx C C' h1 h2 => ?_) ?_
  · obtain ⟨i, hi, rfl⟩ := mem_range hx
    walk_at "ds"
    refine ne_ok rfl (eqv_int _ _) ?_
    walk_at "ds"
    cases e : (!decide ((0 : Int) + i = t)) with
    | true => exact ifT rfl ⟨rfl, h1 e⟩
    | false => exact ifF rfl (h2 e)
  have eo : ∃ os : List Int, ((rangeD 0 m.toNat).filter fun x => match x with | .int c => !decide (c = t) | _ => false).map id = os.map PyData.int ∧ os.Nodup ∧ (∀ c ∈ os, 0 ≤ c ∧ c < m ∧ c ≠ t) ∧ os.length ≤ 5 := by
    refine ⟨((List.range m.toNat).map fun i => ((0 : Int) + (i : Nat))).filter fun c => !decide (c = t), ?_, ?_, ?_, ?_⟩
    · rw [List.map_id, rangeD_eq, List.filter_map, List.filter_map, List.map_map]
      rfl
    · refine List.Pairwise.filter _ ?_
      exact List.Pairwise.map _ (fun a b (hab : a ≠ b) => by omega) List.nodup_range
    · intro c hc
      obtain ⟨hc, ht⟩ := List.mem_filter.mp hc
      obtain ⟨i, hi, rfl⟩ := List.mem_map.mp hc
      have := List.mem_range.mp hi
      refine ⟨by omega, by omega, fun z => ?_⟩
      rw [z] at ht
      simp at ht
    · refine Nat.le_trans (List.length_filter_le _ _) ?_
      rw [List.length_map, List.length_range]
      omega
  obtain ⟨os, e1, e2, e3, e4⟩ := eo
  rw [List.nil_append, e1]
  walk_at "ds"
  -- size
  refine ⟨⟨rfl, by simp⟩, rfl, ys, n + 1, 7, rfl, hy, by omega, by decide, by decide, fun zs d hz d0 d7 => ?_⟩
  walk_at "ds"
  have sz : ∃ s : Int, atI [PyData.int 1, .int 1, .int 2, .int 1, .int 0, .int 3, .int 4] d = some (.int s) ∧ 0 ≤ s ∧ s ≤ 4 := by
    have w : d = 0 ∨ d = 1 ∨ d = 2 ∨ d = 3 ∨ d = 4 ∨ d = 5 ∨ d = 6 := by omega
    rcases w with rfl | rfl | rfl | rfl | rfl | rfl | rfl
    · exact ⟨1, rfl, by decide, by decide⟩
    · exact ⟨1, rfl, by decide, by decide⟩
    · exact ⟨2, rfl, by decide, by decide⟩
    · exact ⟨1, rfl, by decide, by decide⟩
    · exact ⟨0, rfl, by decide, by decide⟩
    · exact ⟨3, rfl, by decide, by decide⟩
    · exact ⟨4, rfl, by decide, by decide⟩
  obtain ⟨s, es, s0, s4⟩ := sz
  refine lstix es ?_
  walk_at "ds"
  refine ⟨⟨rfl, by simp⟩, ?_⟩
  walk_at "ds"
  refine ⟨rfl, ⟨by rw [List.length_map]; split <;> omega, by rw [List.length_map]; split <;> omega⟩, ?_⟩
  generalize hk : (if (((os.map PyData.int).length : Nat) : Int) < s then (((os.map PyData.int).length : Nat) : Int) else s).toNat = k
  have k1 : k ≤ os.length := by rw [← hk, List.length_map]; split <;> omega
  have k2 : k ≤ 4 := by rw [← hk, List.length_map]; split <;> omega
  refine loop_inv (fun i δ => ∃ us os' gs y6, δ = [.o us, .d (.int m), .d (.int t), .o (os'.map PyData.int), .d (.int s), .o (gs.map PyData.int), y6, .un] ∧ (gs ++ os').Nodup ∧ (∀ c ∈ gs ++ os', 0 ≤ c ∧ c < m ∧ c ≠ t) ∧ gs.length = i ∧ os'.length + i = os.length ∧ Pen (n + 2 + i) us) (rangeD 0 k) ?_ _ _ 0 rfl (Nat.zero_le _) ⟨zs, os, [], _, rfl, e2, e3, rfl, rfl, hz⟩ ?_
  · rintro i x δ C hx ⟨us, os', gs, y6, rfl, g1, g2, g3, g4, g5⟩ hC
    have hi : i < k := by
      have := (List.getElem?_eq_some_iff.mp hx).1
      rw [rangeD_len] at this
      exact this
    walk_at "ds"
    refine ⟨rfl, rfl, us, n + 2 + i, (((os'.map PyData.int).length : Nat) : Int), rfl, g5, by omega, by rw [List.length_map]; omega, by rw [List.length_map]; omega, fun vs d hv q0 q1 => ?_⟩
    rw [List.length_map] at q1
    have hd : d.toNat < os'.length := by omega
    have ei : ixN (os'.map PyData.int).length d = some d.toNat := by
      unfold ixN
      rw [if_pos q0, if_pos (by rw [List.length_map]; exact q1)]
    have ej : (os'.map PyData.int)[d.toNat]? = some (.int os'[d.toNat]) := by
      rw [List.getElem?_map, List.getElem?_eq_getElem hd]
      rfl
    walk_at "ds"
    rw [ei]
    dsimp only
    rw [ej]
    walk_at "ds"
    have pm : (gs ++ [os'[d.toNat]] ++ os'.eraseIdx d.toNat).Perm (gs ++ os') := by
      rw [List.append_assoc]
      exact List.Perm.append_left gs (erase_perm os' _ hd)
    refine ⟨by rw [List.length_map]; omega, rfl, by rw [List.length_map]; omega, hC _ ⟨vs, os'.eraseIdx d.toNat, gs ++ [os'[d.toNat]], .d x, ?_, ?_, ?_, ?_, ?_, hv⟩⟩
    · rw [List.map_append, erase_map]
      rfl
    · exact pm.nodup_iff.mpr g1
    · exact fun c hc => g2 c (pm.mem_iff.mp hc)
    · rw [List.length_append, g3]; rfl
    · rw [List.length_eraseIdx_of_lt hd]; omega
  · rintro δ ⟨us, os', gs, y6, rfl, g1, g2, g3, g4, g5⟩
    rw [rangeD_len] at g3 g4 g5
    walk_at "ds"
    refine ⟨rfl, sorted_ok fun ms p1 p2 => ?_⟩
    walk_at "ds"
    refine ⟨⟨rfl, by simp⟩, h us (ms, t) (g5.mono (by omega)) ⟨⟨?_, ?_, ?_⟩, h0, h4, ?_⟩⟩
    · show ms.length ≤ 5
      rw [p1.length_eq]; omega
    · have nd : ms.Nodup := p1.nodup_iff.mpr (List.nodup_append.mp g1).1
      exact (List.pairwise_and_iff.mpr ⟨p2, nd⟩).imp fun ⟨a, b⟩ => by omega
    · intro c hc
      have := g2 c (List.mem_append_left _ (p1.mem_iff.mp hc))
      exact ⟨this.1, this.2.1⟩
    · intro hc
      exact (g2 t (List.mem_append_left _ (p1.mem_iff.mp hc))).2.2 rfl
theorem eqv_lnil (xs : List PyData) : PyData.eqv (.list xs) (.list []) = xs.isEmpty := by
  unfold PyData.eqv
  cases xs with
  | nil => unfold PyData.eqvAll; rfl
  | cons x r => unfold PyData.eqvAll; rfl
theorem shaped_flat {xs : List PyData} (h : ∀ x ∈ xs, ∃ i, x = .int i) : SeqAt.shaped (.list xs) = true := by
  have h1 : ∀ xs : List PyData, (∀ x ∈ xs, ∃ i, x = PyData.int i) → PyData.canLayAll0 xs = true ∧ PyData.depthAll xs = 0 := by
    intro xs
    induction xs with
    | nil => exact fun _ => ⟨rfl, by simp [PyData.depthAll]⟩
    | cons p r ih =>
      intro hp
      obtain ⟨i, rfl⟩ := hp p List.mem_cons_self
      have := ih fun x hx => hp x (List.mem_cons_of_mem _ hx)
      exact ⟨by simp only [PyData.canLayAll0, this.1, PyData.canLay0, Bool.and_self], by simp only [PyData.depthAll, PyData.depth, this.2]; rfl⟩
  unfold SeqAt.shaped
  rw [Bool.and_eq_true]
  refine ⟨?_, decide_eq_true ?_⟩
  · simp only [PyData.canLay0]
    exact (h1 xs h).1
  · simp only [PyData.depth, (h1 xs h).2]
    decide
def inner (n a : Nat) : List (Nat × Nat) := (List.range (n - (a + 1))).map fun j => (a, a + 1 + j)
theorem flat_len (n : Nat) (l : List Nat) : (l.flatMap (inner n)).length ≤ l.length * n := by
  induction l with
  | nil => simp
  | cons x r ih =>
    rw [List.flatMap_cons, List.length_append, List.length_cons, Nat.succ_mul]
    have : (inner n x).length ≤ n := by unfold inner; rw [List.length_map, List.length_range]; omega
    omega
mutual
def short : PyData → Bool
  | .none => true
  | .bool _ => true
  | .int i => decide (0 ≤ i) && decide (i < 100000)
  | .list xs => shortAll xs
  | .tuple xs => shortAll xs
  | .str x => decide (x = "only") || decide (x = "all but") || decide (x = "always") || decide (x = "never") || decide (x = "sometimes") || decide (x = "filling") || decide (x = "conflict") || decide (x = "exact") || decide (x = "table")
  | _ => false
def shortAll : List PyData → Bool
  | [] => true
  | x :: xs => short x && shortAll xs
end
mutual
def count : PyData → Nat
  | .list xs => countAll xs
  | .tuple xs => countAll xs
  | _ => 0
def countAll : List PyData → Nat
  | [] => 0
  | x :: xs => count x + 1 + countAll xs
end
theorem int_len {i : Int} (h0 : 0 ≤ i) (h1 : i < 100000) : (PyData.shown (.int i)).length ≤ 8 := by
  have := toString_length_le h0 (k := 5) (by decide) (by omega)
  unfold PyData.shown
  omega
mutual
theorem show_len : ∀ d : PyData, short d = true → d.showable = true ∧ d.hasDict = false ∧ d.shown.length ≤ 14 * count d + 12
  | .none, _ => ⟨rfl, by simp [PyData.hasDict], by decide⟩
  | .bool b, _ => ⟨rfl, by simp [PyData.hasDict], by cases b <;> decide⟩
  | .int i, h => by
    simp only [short, Bool.and_eq_true, decide_eq_true_eq] at h
    refine ⟨?_, by simp [PyData.hasDict], Nat.le_trans (int_len h.1 h.2) (by omega)⟩
    simp only [PyData.showable, decide_eq_true_eq]
    have h17 : i.natAbs < 2 ^ 17 := by omega
    by_cases hz : i.natAbs = 0
    · rw [hz]; decide
    · exact Nat.lt_of_lt_of_le ((Nat.log2_lt hz).mpr h17) (by decide)
  | .list xs, h => by
    simp only [short] at h
    obtain ⟨h1, h2, h3⟩ := show_lenA xs h
    have h4 := listText_len_le (PyData.shownAll xs)
    have h5 := PyData.shownAll_length xs
    refine ⟨by simpa only [PyData.showable] using h1, by simpa only [PyData.hasDict] using h2, ?_⟩
    simp only [PyData.shown, count]
    omega
  | .tuple xs, h => by
    simp only [short] at h
    obtain ⟨h1, h2, h3⟩ := show_lenA xs h
    have h4 := tupleText_len_le (PyData.shownAll xs)
    have h5 := PyData.shownAll_length xs
    refine ⟨by simpa only [PyData.showable] using h1, by simpa only [PyData.hasDict] using h2, ?_⟩
    simp only [PyData.shown, count]
    omega
  | .str x, h => by
    simp only [short, Bool.or_eq_true, decide_eq_true_eq] at h
    refine ⟨rfl, by simp [PyData.hasDict], ?_⟩
    rcases h with ((((((((h | h) | h) | h) | h) | h) | h) | h) | h) <;> (subst h; decide +kernel)
  | .dict x, h => by simp [short] at h
theorem show_lenA : ∀ xs : List PyData, shortAll xs = true → PyData.showableAll xs = true ∧ PyData.hasDictAll xs = false ∧ ((PyData.shownAll xs).map (·.length)).sum + 2 * xs.length ≤ 14 * countAll xs
  | [], _ => ⟨by simp [PyData.showableAll], by simp [PyData.hasDictAll], by simp [PyData.shownAll]⟩
  | x :: xs, h => by
    simp only [shortAll, Bool.and_eq_true] at h
    obtain ⟨a1, a2, a3⟩ := show_len x h.1
    obtain ⟨b1, b2, b3⟩ := show_lenA xs h.2
    refine ⟨by simp only [PyData.showableAll, a1, b1, Bool.and_self], by simp only [PyData.hasDictAll, a2, b2, Bool.or_self], ?_⟩
    simp only [PyData.shownAll, List.map_cons, List.sum_cons, List.length_cons, countAll]
    omega
end
theorem shortAll_map {α : Type} (f : α → PyData) : ∀ xs : List α, (∀ x ∈ xs, short (f x) = true) → shortAll (xs.map f) = true
  | [], _ => rfl
  | x :: r, h => by
    simp only [List.map_cons, shortAll, h x List.mem_cons_self, shortAll_map f r fun y hy => h y (List.mem_cons_of_mem _ hy), Bool.and_self]
theorem countAll_map {α : Type} (f : α → PyData) (k : Nat) : ∀ xs : List α, (∀ x ∈ xs, count (f x) ≤ k) → countAll (xs.map f) ≤ xs.length * (k + 1)
  | [], _ => by simp [countAll]
  | x :: r, h => by
    have h1 := h x List.mem_cons_self
    have h2 := countAll_map f k r fun y hy => h y (List.mem_cons_of_mem _ hy)
    simp only [List.map_cons, countAll, List.length_cons, Nat.succ_mul]
    omega
theorem depthAll_map {α : Type} (f : α → PyData) (k : Nat) : ∀ xs : List α, (∀ x ∈ xs, (f x).depth ≤ k) → PyData.depthAll (xs.map f) ≤ k
  | [], _ => by simp [PyData.depthAll]
  | x :: r, h => by
    have h1 := h x List.mem_cons_self
    have h2 := depthAll_map f k r fun y hy => h y (List.mem_cons_of_mem _ hy)
    simp only [List.map_cons, PyData.depthAll]
    omega
theorem showOk_of {d : PyData} (h1 : short d = true) (h2 : count d ≤ 10000) (h3 : d.depth ≤ 64) : showOk d := by
  obtain ⟨a, b, c⟩ := show_len d h1
  exact ⟨a, b, h3, Nat.le_trans c (by rw [sizeLine_eq]; omega)⟩
/-- small data: short, counted, not deep -/
def Sm (k n : Nat) (d : PyData) : Prop := short d = true ∧ count d ≤ k ∧ d.depth ≤ n
theorem sm_int {i : Int} (h0 : 0 ≤ i) (h1 : i < 100000) : Sm 0 0 (.int i) := ⟨by simp [short, h0, h1], by simp [count], by simp [PyData.depth]⟩
theorem sm_tup {α : Type} {f : α → PyData} {xs : List α} {k n m : Nat} (h : ∀ x ∈ xs, Sm k n (f x)) (hm : xs.length ≤ m) : Sm (m * (k + 1)) (n + 1) (.tuple (xs.map f)) := by
  refine ⟨by simp only [short]; exact shortAll_map f xs fun x hx => (h x hx).1, ?_, ?_⟩
  · simp only [count]
    exact Nat.le_trans (countAll_map f k xs fun x hx => (h x hx).2.1) (Nat.mul_le_mul_right _ hm)
  · simp only [PyData.depth]
    have := depthAll_map f n xs fun x hx => (h x hx).2.2
    omega
theorem sm_two {a b : PyData} {k1 n1 k2 n2 : Nat} (h1 : Sm k1 n1 a) (h2 : Sm k2 n2 b) : Sm (k1 + k2 + 2) (max n1 n2 + 1) (.tuple [a, b]) ∧ Sm (k1 + k2 + 2) (max n1 n2 + 1) (.list [a, b]) := by
  have c1 := h1.2.1
  have c2 := h2.2.1
  have d1 := h1.2.2
  have d2 := h2.2.2
  refine ⟨⟨?_, ?_, ?_⟩, ⟨?_, ?_, ?_⟩⟩
  · simp only [short, shortAll, h1.1, h2.1, Bool.and_self]
  · simp only [count, countAll]; omega
  · simp only [PyData.depth, PyData.depthAll]; omega
  · simp only [short, shortAll, h1.1, h2.1, Bool.and_self]
  · simp only [count, countAll]; omega
  · simp only [PyData.depth, PyData.depthAll]; omega
theorem Sm.ok {k n : Nat} {d : PyData} (h : Sm k n d) (hk : k ≤ 10000) (hn : n ≤ 64) : showOk d := showOk_of h.1 (Nat.le_trans h.2.1 hk) (Nat.le_trans h.2.2 hn)
theorem sm_cell {c : Option Int} (h : CellOk c) : Sm 0 0 (cellD c) := by
  cases c with
  | none => exact ⟨rfl, by simp [cellD, count], by simp [cellD, PyData.depth]⟩
  | some v => exact sm_int (h v rfl).1 (by have := (h v rfl).2; omega)
theorem sm_tab {m : Int} {rs : List Cells} (h : TabOk m rs) : Sm 100 3 (tabD m rs) := by
  have h5 := h.hi
  have hrow : ∀ r ∈ rs, Sm 5 1 (rowD r) := fun r hr => by
    have := (h.rows r hr).1
    exact sm_tup (k := 0) (n := 0) (m := 5) (fun c hc => sm_cell ((h.rows r hr).2 c hc)) (by omega)
  have h1 : Sm 48 2 (rowsD rs) := sm_tup (m := 8) hrow h.few
  have := (sm_two (sm_int (i := m) (by have := h.lo; omega) (by omega)) h1).1
  exact ⟨this.1, Nat.le_trans this.2.1 (by decide), Nat.le_trans this.2.2 (by decide)⟩
theorem sm_rule {m : Int} {r : Rule} (hm : m ≤ 5) (h : RuleOk m r) : Sm 7 2 (ruleD r) := by
  have h1 : Sm 5 1 (iT r.1) := sm_tup (k := 0) (n := 0) (m := 5) (fun c hc => sm_int (h.cols.inn c hc).1 (by have := (h.cols.inn c hc).2; omega)) h.cols.few
  have := (sm_two h1 (sm_int h.lo (by have := h.hi; omega))).1
  exact ⟨this.1, Nat.le_trans this.2.1 (by decide), Nat.le_trans this.2.2 (by decide)⟩
theorem sm_rules {m : Int} {rs : List Rule} (hm : m ≤ 5) (h : RulesOk m rs) : Sm 64 3 (rulesD rs) := sm_tup (m := 8) (fun r hr => sm_rule hm (h.all r hr)) h.few
theorem brk_len {m : Int} {rs : List Cells} (h : TabOk m rs) (r : Rule) : (brk rs r).length ≤ 64 := by
  have h1 := List.length_filter_le (brkT rs r) (pairs rs.length)
  have h2 := pairs_len rs.length
  have h3 : rs.length * rs.length ≤ 8 * 8 := Nat.mul_le_mul h.few h.few
  unfold brk
  omega
theorem sm_brk {m : Int} {rs : List Cells} (h : TabOk m rs) (r : Rule) : Sm 192 2 (pairsD (brk rs r)) := by
  have hf := h.few
  refine sm_tup (k := 2) (n := 1) (m := 64) (fun p hp => ?_) (brk_len h r)
  have hp := mem_pairs (List.mem_filter.mp hp).1
  have := (sm_two (sm_int (i := (p.1 : Int)) (by omega) (by omega)) (sm_int (i := (p.2 : Int)) (by omega) (by omega))).1
  exact ⟨this.1, Nat.le_trans this.2.1 (by decide), Nat.le_trans this.2.2 (by decide)⟩
end B

namespace B
open PySem PySem.Spec PyProof.Rows L2 Dw
/-! ### cells that are joined -/
abbrev Marks := List (List Nat)
def cel (rs : List Cells) (i c : Nat) : Option Int := at_ (rs.getD i []) (c : Nat)
def mrk (G : Marks) (c i : Nat) : Nat := (G.getD c []).getD i 0
inductive Jn (m : Nat) (rs : List Cells) (rl : List Rule) : Nat → Nat → Nat → Prop
  | refl {c i : Nat} : c < m → i < rs.length → Jn m rs rl c i i
  | val {c i j : Nat} {v : Int} : c < m → i < rs.length → j < rs.length → cel rs i c = some v → cel rs j c = some v → Jn m rs rl c i j
  | symm {c i j : Nat} : Jn m rs rl c i j → Jn m rs rl c j i
  | trans {c i j k : Nat} : Jn m rs rl c i j → Jn m rs rl c j k → Jn m rs rl c i k
  | step {r : Rule} {i j : Nat} : r ∈ rl → r.2.toNat < m → i < rs.length → j < rs.length → (∀ g ∈ r.1, Jn m rs rl g.toNat i j) → Jn m rs rl r.2.toNat i j
structure Shp (m n : Nat) (G : Marks) : Prop where
  cols : G.length = m
  rows : ∀ col ∈ G, col.length = n
/-- ahead of the end -/
structure IG (m : Nat) (rs : List Cells) (rl : List Rule) (G : Marks) : Prop where
  shp : Shp m rs.length G
  le : ∀ c i, c < m → i < rs.length → mrk G c i ≤ i ∧ mrk G c (mrk G c i) = mrk G c i
  snd : ∀ c i j, c < m → i < rs.length → j < rs.length → mrk G c i = mrk G c j → Jn m rs rl c i j
  base : ∀ c i j v, c < m → i < rs.length → j < rs.length → cel rs i c = some v → cel rs j c = some v → mrk G c i = mrk G c j
structure JM (m : Nat) (rs : List Cells) (rl : List Rule) (G : Marks) : Prop where
  shp : Shp m rs.length G
  le : ∀ c i, c < m → i < rs.length → mrk G c i ≤ i ∧ mrk G c (mrk G c i) = mrk G c i
  iff : ∀ c i j, c < m → i < rs.length → j < rs.length → (mrk G c i = mrk G c j ↔ Jn m rs rl c i j)
def ClosedAt (G : Marks) (r : Rule) (lo hi : Nat) : Prop := (∀ g ∈ r.1, mrk G g.toNat lo = mrk G g.toNat hi) → mrk G r.2.toNat lo = mrk G r.2.toNat hi
section
variable {m : Nat} {rs : List Cells} {rl : List Rule} {G G' : Marks}
theorem Shp.at {m n : Nat} (h : Shp m n G) {c : Nat} (hc : c < m) : G[c]? = some (G.getD c []) ∧ (G.getD c []).length = n := by
  have hl : c < G.length := by rw [h.cols]; exact hc
  have e : G[c]? = some (G.getD c []) := by rw [List.getD_eq_getElem?_getD, List.getElem?_eq_getElem hl]; rfl
  exact ⟨e, h.rows _ (List.mem_of_getElem? e)⟩
theorem IG.done (h : IG m rs rl G) (cl : ∀ r ∈ rl, ∀ lo hi, lo < hi → hi < rs.length → ClosedAt G r lo hi) : JM m rs rl G := by
  refine ⟨h.shp, h.le, fun c i j hc hi hj => ⟨h.snd c i j hc hi hj, fun jn => ?_⟩⟩
  have key : ∀ {c i j}, Jn m rs rl c i j → mrk G c i = mrk G c j := by
    intro c i j jn
    induction jn with
    | refl _ _ => rfl
    | val hc hi hj e1 e2 => exact h.base _ _ _ _ hc hi hj e1 e2
    | symm _ ih => exact ih.symm
    | trans _ _ ih1 ih2 => exact ih1.trans ih2
    | @step r i j hr ht hi hj _ ih =>
      rcases Nat.lt_trichotomy i j with z | z | z
      · exact cl r hr i j z hj ih
      · rw [z]
      · exact (cl r hr j i z hi fun g hg => (ih g hg).symm).symm
  exact key jn
theorem JM.uniq (h : JM m rs rl G) (h' : JM m rs rl G') : G = G' := by
  have mle : ∀ {G G' : Marks}, JM m rs rl G → JM m rs rl G' → ∀ c i, c < m → i < rs.length → mrk G' c i ≤ mrk G c i := by
    intro G G' h h' c i hc hi
    have l := h.le c i hc hi
    have hi2 : mrk G c i < rs.length := by omega
    have j := (h.iff c (mrk G c i) i hc hi2 hi).mp l.2
    have e := (h'.iff c (mrk G c i) i hc hi2 hi).mpr j
    have := (h'.le c (mrk G c i) hc hi2).1
    omega
  apply List.ext_getElem?
  intro c
  by_cases hc : c < m
  · obtain ⟨e1, l1⟩ := h.shp.at hc
    obtain ⟨e2, l2⟩ := h'.shp.at hc
    rw [e1, e2]
    congr 1
    apply List.ext_getElem?
    intro i
    by_cases hi : i < rs.length
    · have a := mle h h' c i hc hi
      have b := mle h' h c i hc hi
      have e : mrk G c i = mrk G' c i := by omega
      unfold mrk at e
      rw [List.getD_eq_getElem?_getD, List.getD_eq_getElem?_getD (l := G'.getD c [])] at e
      rw [List.getElem?_eq_getElem (by omega), List.getElem?_eq_getElem (by omega)] at e ⊢
      exact congrArg some e
    · rw [List.getElem?_eq_none (by omega), List.getElem?_eq_none (by omega)]
  · rw [List.getElem?_eq_none (by rw [h.shp.cols]; omega), List.getElem?_eq_none (by rw [h'.shp.cols]; omega)]
/-- one step -/
def lower (a b x : Nat) : Nat := if x = b then a else x
def stepG (G : Marks) (t lo hi : Nat) : Marks := G.set t ((G.getD t []).map (lower (min (mrk G t lo) (mrk G t hi)) (max (mrk G t lo) (mrk G t hi))))
theorem step_mk {m n : Nat} (h : Shp m n G) {t lo hi : Nat} (ht : t < m) (c i : Nat) (hc : c < m) (hi' : i < n) :
    mrk (stepG G t lo hi) c i = if c = t then lower (min (mrk G t lo) (mrk G t hi)) (max (mrk G t lo) (mrk G t hi)) (mrk G c i) else mrk G c i := by
  unfold stepG
  generalize ha : min (mrk G t lo) (mrk G t hi) = a
  generalize hb : max (mrk G t lo) (mrk G t hi) = b
  unfold mrk
  obtain ⟨e1, l1⟩ := h.at hc
  by_cases q : c = t
  · subst q
    rw [if_pos rfl, List.getD_eq_getElem?_getD (l := G.set c _), List.getElem?_set_self (by rw [h.cols]; exact ht)]
    simp only [Option.getD_some]
    rw [List.getD_eq_getElem?_getD, List.getElem?_map, List.getD_eq_getElem?_getD (l := G.getD c [])]
    rw [List.getElem?_eq_getElem (by omega)]
    rfl
  · rw [if_neg q, List.getD_eq_getElem?_getD (l := G.set t _), List.getElem?_set_ne (fun z => q z.symm), e1]
    rfl
theorem step_shp {m n : Nat} (h : Shp m n G) {t lo hi : Nat} (ht : t < m) : Shp m n (stepG G t lo hi) := by
  refine ⟨by unfold stepG; rw [List.length_set]; exact h.cols, fun col hcol => ?_⟩
  unfold stepG at hcol
  rcases List.mem_or_eq_of_mem_set hcol with q | q
  · exact h.rows col q
  · rw [q, List.length_map]; exact (h.at ht).2
theorem IG.step (h : IG m rs rl G) {r : Rule} (hr : r ∈ rl) {lo hi : Nat} (ht : r.2.toNat < m) (hlo : lo < rs.length) (hhi : hi < rs.length) (hg : ∀ g ∈ r.1, g.toNat < m) (able : ∀ g ∈ r.1, mrk G g.toNat lo = mrk G g.toNat hi) (ne : mrk G r.2.toNat lo ≠ mrk G r.2.toNat hi) :
    IG m rs rl (stepG G r.2.toNat lo hi) := by
  have sm := step_mk h.shp (lo := lo) (hi := hi) ht
  have l1 := h.le _ lo ht hlo
  have l2 := h.le _ hi ht hhi
  generalize ea : min (mrk G r.2.toNat lo) (mrk G r.2.toNat hi) = a at sm
  generalize eb : max (mrk G r.2.toNat lo) (mrk G r.2.toNat hi) = b at sm
  have hab : a < b := by omega
  have fa : mrk G r.2.toNat a = a := by
    rcases Nat.le_total (mrk G r.2.toNat lo) (mrk G r.2.toNat hi) with z | z
    · rw [Nat.min_eq_left z] at ea; rw [← ea]; exact l1.2
    · rw [Nat.min_eq_right z] at ea; rw [← ea]; exact l2.2
  have jn : Jn m rs rl r.2.toNat lo hi := .step hr ht hlo hhi fun g hg' => h.snd _ _ _ (hg g hg') hlo hhi (able g hg')
  have jab : ∀ i j, i < rs.length → j < rs.length → mrk G r.2.toNat i = a → mrk G r.2.toNat j = b → Jn m rs rl r.2.toNat i j := fun i j hi' hj' e1 e2 => by
    rcases Nat.le_total (mrk G r.2.toNat lo) (mrk G r.2.toNat hi) with z | z
    · rw [Nat.min_eq_left z] at ea
      rw [Nat.max_eq_right z] at eb
      exact (h.snd _ _ _ ht hi' hlo (e1.trans ea.symm)).trans (jn.trans (h.snd _ _ _ ht hhi hj' (eb.trans e2.symm)))
    · rw [Nat.min_eq_right z] at ea
      rw [Nat.max_eq_left z] at eb
      exact (h.snd _ _ _ ht hi' hhi (e1.trans ea.symm)).trans (jn.symm.trans (h.snd _ _ _ ht hlo hj' (eb.trans e2.symm)))
  refine ⟨step_shp h.shp ht, fun c i hc hi' => ?_, fun c i j hc hi' hj' e => ?_, fun c i j v hc hi' hj' e1 e2 => ?_⟩
  · have l := h.le c i hc hi'
    rw [sm c i hc hi']
    by_cases q : c = r.2.toNat
    · rw [if_pos q]
      unfold lower
      by_cases w : mrk G c i = b
      · rw [if_pos w]
        have ha : a < rs.length := by omega
        refine ⟨by omega, ?_⟩
        rw [sm c a hc ha, if_pos q]
        unfold lower
        rw [q, fa, if_neg (by omega)]
      · rw [if_neg w]
        refine ⟨l.1, ?_⟩
        rw [sm c _ hc (by omega), if_pos q]
        unfold lower
        rw [l.2, if_neg w]
    · rw [if_neg q]
      refine ⟨l.1, ?_⟩
      rw [sm c _ hc (by omega), if_neg q]
      exact l.2
  · rw [sm c i hc hi', sm c j hc hj'] at e
    by_cases q : c = r.2.toNat
    · rw [if_pos q, if_pos q] at e
      unfold lower at e
      subst q
      by_cases w1 : mrk G r.2.toNat i = b <;> by_cases w2 : mrk G r.2.toNat j = b
      · exact h.snd _ _ _ hc hi' hj' (w1.trans w2.symm)
      · rw [if_pos w1, if_neg w2] at e
        exact (jab j i hj' hi' e.symm w1).symm
      · rw [if_neg w1, if_pos w2] at e
        exact jab i j hi' hj' e w2
      · rw [if_neg w1, if_neg w2] at e
        exact h.snd _ _ _ hc hi' hj' e
    · rw [if_neg q, if_neg q] at e
      exact h.snd _ _ _ hc hi' hj' e
  · have e := h.base c i j v hc hi' hj' e1 e2
    rw [sm c i hc hi', sm c j hc hj', e]
/-- how much is left -/
def mu (G : Marks) : Nat := (G.map List.sum).sum
theorem sum_lower {a b : Nat} (h : a < b) : ∀ (l : List Nat), (l.map (lower a b)).sum ≤ l.sum ∧ (b ∈ l → (l.map (lower a b)).sum < l.sum)
  | [] => ⟨Nat.le_refl _, fun z => by simp at z⟩
  | x :: l => by
    obtain ⟨h1, h2⟩ := sum_lower h l
    simp only [List.map_cons, List.sum_cons]
    unfold lower at *
    by_cases e : x = b
    · rw [if_pos e]
      exact ⟨by omega, fun _ => by omega⟩
    · rw [if_neg e]
      refine ⟨by omega, fun z => ?_⟩
      have := h2 ((List.mem_cons.mp z).resolve_left fun w => e w.symm)
      omega
theorem mu_set : ∀ (G : Marks) (t : Nat) (col : List Nat), t < G.length → col.sum < (G.getD t []).sum → mu (G.set t col) < mu G
  | [], t, col, ht, _ => by simp at ht
  | x :: G, 0, col, ht, h => by
    unfold mu
    have h : col.sum < x.sum := h
    simp only [List.set_cons_zero, List.map_cons, List.sum_cons]
    omega
  | x :: G, t + 1, col, ht, h => by
    have ih := mu_set G t col (by simpa using ht) h
    unfold mu at *
    simp only [List.set_cons_succ, List.map_cons, List.sum_cons]
    omega
theorem step_mu {m n : Nat} (h : Shp m n G) {t lo hi : Nat} (ht : t < m) (hlo : lo < n) (hhi : hi < n) (ne : mrk G t lo ≠ mrk G t hi) : mu (stepG G t lo hi) < mu G := by
  unfold stepG
  have l := (h.at ht).2
  have hlt : min (mrk G t lo) (mrk G t hi) < max (mrk G t lo) (mrk G t hi) := by omega
  refine mu_set G t _ (by rw [h.cols]; exact ht) ((sum_lower hlt _).2 ?_)
  have mem : ∀ i, i < n → mrk G t i ∈ G.getD t [] := fun i hi => by
    have hl : i < (G.getD t []).length := by rw [l]; exact hi
    unfold mrk
    rw [List.getD_eq_getElem?_getD (l := G.getD t []), List.getElem?_eq_getElem hl]
    exact List.getElem_mem _
  rcases Nat.le_total (mrk G t lo) (mrk G t hi) with z | z
  · rw [Nat.max_eq_right z]; exact mem hi hhi
  · rw [Nat.max_eq_left z]; exact mem lo hlo
/-- the start -/
def initCol (cs : Cells) : List Nat := cs.zipIdx.map fun p => match p.1 with
  | none => p.2
  | some v => cs.findIdx fun z => decide (z = some v)
def colOf (rs : List Cells) (c : Nat) : Cells := rs.map fun r => at_ r (c : Nat)
def initG (m : Nat) (rs : List Cells) : Marks := (List.range m).map fun c => initCol (colOf rs c)
theorem init_at {cs : Cells} {i : Nat} (h : i < cs.length) : (initCol cs).getD i 0 = match cs[i] with
  | none => i
  | some v => cs.findIdx fun z => decide (z = some v) := by
  unfold initCol
  rw [List.getD_eq_getElem?_getD, List.getElem?_map, List.getElem?_zipIdx, List.getElem?_eq_getElem h]
  simp
theorem col_at {c i : Nat} (hi : i < rs.length) (hl : i < (colOf rs c).length) : (colOf rs c)[i] = cel rs i c := by
  have e : (colOf rs c)[i]? = some (cel rs i c) := by
    unfold colOf cel
    rw [List.getElem?_map, List.getElem?_eq_getElem hi, List.getD_eq_getElem?_getD, List.getElem?_eq_getElem hi]
    rfl
  exact Option.some.inj ((List.getElem?_eq_getElem hl).symm.trans e)
theorem init_mk {m : Nat} {c i : Nat} (hc : c < m) (hi : i < rs.length) : mrk (initG m rs) c i = match cel rs i c with
  | none => i
  | some v => (colOf rs c).findIdx fun z => decide (z = some v) := by
  unfold mrk initG
  rw [List.getD_eq_getElem?_getD (l := List.map _ _), List.getElem?_map, List.getElem?_range hc]
  simp only [Option.map_some, Option.getD_some]
  have hl : i < (colOf rs c).length := by unfold colOf; rw [List.length_map]; exact hi
  rw [init_at hl, col_at hi hl]
theorem col_find {c i : Nat} {v : Int} (hi : i < rs.length) (e : cel rs i c = some v) : (colOf rs c).findIdx (fun z => decide (z = some v)) ≤ i ∧ cel rs ((colOf rs c).findIdx fun z => decide (z = some v)) c = some v := by
  have hl : i < (colOf rs c).length := by unfold colOf; rw [List.length_map]; exact hi
  have at' : ∀ k, (h : k < rs.length) → (colOf rs c)[k]'(by unfold colOf; rw [List.length_map]; exact h) = cel rs k c := fun k h => col_at h _
  have hx : (colOf rs c).findIdx (fun z => decide (z = some v)) < (colOf rs c).length := List.findIdx_lt_length_of_exists ⟨_, List.getElem_mem hl, by rw [at' i hi, e]; simp⟩
  have p := List.findIdx_getElem (w := hx)
  have hx2 : (colOf rs c).findIdx (fun z => decide (z = some v)) < rs.length := by
    have : (colOf rs c).length = rs.length := by unfold colOf; rw [List.length_map]
    omega
  refine ⟨?_, ?_⟩
  · rcases Nat.lt_or_ge i ((colOf rs c).findIdx fun z => decide (z = some v)) with z | z
    · have := List.not_of_lt_findIdx z
      rw [at' i hi, e] at this
      simp at this
    · exact z
  · rw [at' _ hx2] at p
    exact of_decide_eq_true p
theorem init_ok : IG m rs rl (initG m rs) := by
  refine ⟨⟨by unfold initG; simp, fun col h => ?_⟩, fun c i hc hi => ?_, fun c i j hc hi hj e => ?_, fun c i j v hc hi hj e1 e2 => ?_⟩
  · unfold initG at h
    obtain ⟨c, _, rfl⟩ := List.mem_map.mp h
    unfold initCol colOf
    simp
  · rw [init_mk hc hi]
    cases e : cel rs i c with
    | none =>
      refine ⟨Nat.le_refl _, ?_⟩
      show mrk (initG m rs) c i = i
      rw [init_mk hc hi, e]
    | some v =>
      obtain ⟨h1, h2⟩ := col_find hi e
      refine ⟨h1, ?_⟩
      show mrk (initG m rs) c _ = _
      have h3 : (colOf rs c).findIdx (fun z => decide (z = some v)) < rs.length := by omega
      rw [init_mk hc h3, h2]
  · rw [init_mk hc hi, init_mk hc hj] at e
    cases e1 : cel rs i c with
    | none =>
      rw [e1] at e
      cases e2 : cel rs j c with
      | none =>
        rw [e2] at e
        have e : i = j := e
        subst e
        exact .refl hc hi
      | some v =>
        rw [e2] at e
        have e : i = (colOf rs c).findIdx (fun z => decide (z = some v)) := e
        have := (col_find hj e2).2
        rw [← e, e1] at this
        cases this
    | some v =>
      rw [e1] at e
      cases e2 : cel rs j c with
      | none =>
        rw [e2] at e
        have e : (colOf rs c).findIdx (fun z => decide (z = some v)) = j := e
        have := (col_find hi e1).2
        rw [e, e2] at this
        cases this
      | some u =>
        rw [e2] at e
        have e : (colOf rs c).findIdx (fun z => decide (z = some v)) = (colOf rs c).findIdx (fun z => decide (z = some u)) := e
        have h1 := (col_find hi e1).2
        have h2 := (col_find hj e2).2
        rw [e, h2] at h1
        cases h1
        exact .val hc hi hj e1 e2
  · rw [init_mk hc hi, init_mk hc hj, e1, e2]
end
end B

namespace B
open PySem PySem.Spec PyProof.Rows L2 Dw
local macro_rules | `(tactic| walk_at "ds") => `(tactic| try dsimp only [wRet, wRetN, wThen, wIfS, wIf, wNotT, wTru, wB, w2, wV, wC, wCons, wNil, wCall, wCallO, wCallO1, endO, wCB, wLc, wSeq, wYes, wNext, wNever, wDrop, wSet, wAsg, wPair, wFor, wTup, wLst, wAndV, wOrV, wNotV, wNeg, wAndT, wOrT, wIsi, wChain, wSlice, wPart, wNo, wZip, wEnum, wRng1, wRng2, wLc2, wApp, wApp1, wPop, wPop1, wExt, wExt1, wSetI, wSetI1, wSetD, wIdx, wIdx1, wExtL, wExtL1, wLenM, wNotInM, wGetM, wPutM, wPutM1, wSetK, wTri, wForget, rCatTD, rCatLD, intsR, Option.map_some, bN, bTup, bCons, bNil, as_d, as_l, as_b, noB_d, noB_l, still_d, still_l, still_b, put_d, put_l, tru_bool, tru_tup, tru_lst, isT_tup, isI_int, isB_int, stillA_nil, stillA_cons, map0, map1, map2, map3, len_l, len_t, tup_l, tup_t, lst_l, lst_t, max_i, min_i, List.all_cons, List.all_nil, Bool.and_self, Bool.and_true, Bool.not_true, Bool.not_false, List.getElem?_cons_zero, List.getElem?_cons_succ, List.cons_append, List.nil_append, List.append_nil, List.reduceReplicate, Nat.reduceSub, Nat.sub_self, rI1, rI2, rAddD, rSubD, rMulD, rDivD, rModD, rPowD, rLtD, rLeD, rGtD, rGeD, List.set_cons_zero, List.set_cons_succ, List.set_nil, endsOf, outD, wipeD])
/-! ### marks, values of lots, general fillings: what the law's own defs promise -/
def colD (col : List Nat) : PyData := .list (col.map fun n => PyData.int (n : Nat))
def marksD (G : Marks) : List PyData := G.map colD
def valStep (G : Marks) (c f : Nat) (acc : List Int) (p : Cells × Nat) : List Int := match at_ p.1 (c : Nat) with
  | some v => if mrk G c p.2 = f ∧ v ∉ acc then acc ++ [v] else acc
  | none => acc
def vals (rs : List Cells) (G : Marks) (c f : Nat) : List Int := rs.zipIdx.foldl (valStep G c f) []
def clash (rs : List Cells) (G : Marks) : Bool := (List.range G.length).any fun c => (G.getD c []).any fun f => decide (1 < (vals rs G c f).length)
def S_law_rows : WE := fun δ P => ∃ xs n m k, δ = [.o xs, .d (.int m), .d (.int k)] ∧ Pen n xs ∧ n ≤ 990000 ∧ 1 ≤ m ∧ m ≤ 5 ∧ 0 ≤ k ∧ k ≤ 8 ∧ ∀ ys rs, Pen (n + 100) ys → TabOk m rs → ((rs.length : Int) ≤ k ∧ ∀ r ∈ rs, (some 5000 : Option Int) ∉ r) → P (.d (rowsD rs)) [.o ys, .d (.int m), .d (.int k)]
def S_law_joined : WE := fun δ P => ∃ m rs rl, δ = [.d (.int m), .d (rowsD rs), .d (rulesD rl)] ∧ TabOk m rs ∧ RulesOk m rl ∧ ∀ G, JM m.toNat rs rl G → P (.l (marksD G)) δ
def S_law_values : WE := fun δ P => ∃ (m : Int) (rs : List Cells) (G : Marks) (c f : Nat), δ = [.d (rowsD rs), .d (.list (marksD G)), .d (.int c), .d (.int f)] ∧ TabOk m rs ∧ Shp m.toNat rs.length G ∧ c < m.toNat ∧ P (.l ((vals rs G c f).map PyData.int)) δ
def S_law_is_clash : WE := fun δ P => ∃ (m : Int) (rs : List Cells) (G : Marks), δ = [.d (rowsD rs), .d (.list (marksD G))] ∧ TabOk m rs ∧ Shp m.toNat rs.length G ∧ P (.d (.bool (clash rs G))) δ
/-- slots: 0 law_pen_here, 1 law_many, 2 law_most, 3 law_lap, 4 law_kinds, 5 law_share, 6 law_values_here, 7 law_found, 8 law_cells, 9 law_column -/
def wb_law_rows : WS := (wThen (wPair 4 5 (w2 rAddD (wC (.int 1)) (wCallO S_law_draw 0 (wCons (wC (.int 3)) wNil))) (wCallO S_law_draw 0 (wCons (wC (.int 4)) wNil)))
      (wThen (wPair 6 7 (w2 rIxD (wLst (wCons (wLst (wCons (wC (.int 0)) (wCons (wC (.int 1)) (wCons (wC (.int 2)) wNil)))) (wCons (wLst (wCons (wC (.int 0)) (wCons (wC (.int 1)) (wCons (wC (.int 2)) wNil)))) (wCons (wLst (wCons (wC (.int 2)) (wCons (wC (.int 10)) (wCons (wC (.int 100)) wNil)))) (wCons (wLst (wCons (wC (.int 9999)) (wCons (wC (.int 30)) (wCons (wC (.int 4)) wNil)))) wNil))))) (wCallO S_law_draw 0 (wCons (wC (.int 4)) wNil))) (wLst wNil))
      (wThen (wFor (wRng1 (wCons (wCallO S_law_draw 0 (wCons (w2 rAddD (wV 2) (wC (.int 1))) wNil)) wNil)) (bN 3) (wThen (wSet 8 (wLst wNil))
      (wThen (wFor (wRng1 (wCons (wV 1) wNil)) (bN 9) (wDrop (wApp 8 (wIf (wB (w2 rLtD (wCallO S_law_draw 0 (wCons (wC (.int 4)) wNil)) (wV 5))) (wC .none) (w2 rIxD (wV 6) (wCallO S_law_draw 0 (wCons (wV 4) wNil)))))))
      (wDrop (wApp 7 (wCB rTupleD (wCons (wV 8) wNil)))))))
      (wRet (wCB rTupleD (wCons (wV 7) wNil))))))
/-- slots: 0 law_many, 1 law_rows_here, 2 law_rules_here, 3 law_groups, 4 law_column, 5 law_again, 6 law_cells, 7 law_given, 8 law_then, 9 law_high, 10 law_row, 11 law_low, 12 law_group, 13 law_is_able, 14 law_at, 15 law_cell, 16 law_least, 17 law_most, 18 law_one -/
def wb_law_joined : WS := (wThen (wSet 3 (wLst wNil))
      (wThen (wFor (wRng1 (wCons (wV 0) wNil)) (bN 4) (wThen (wSetD 6 (wLc (wSeq (wV 1)) (bN 10) wYes (w2 rIxD (wV 10) (wV 4)) [10]))
      (wDrop (wApp 3 (wLc (wEnum (wCons (wV 6) wNil)) (bTup 2 (bCons (bN 14) (bCons (bN 15) bNil))) wYes (wIf (wB (w2 (rIsT false) (wV 15) (wC .none))) (wV 14) (wIdx 6 (wV 15))) [14, 15])))))
      (wThen (wSet 5 (wC (.bool true)))
      (wThen (wWhile (wTru (wV 5)) (wThen (wSet 5 (wC (.bool false)))
      (wFor (wSeq (wV 2)) (bTup 2 (bCons (bN 7) (bCons (bN 8) bNil))) (wFor (wRng1 (wCons (wCB rLenD (wCons (wV 1) wNil)) wNil)) (bN 9) (wFor (wRng1 (wCons (wV 9) wNil)) (bN 11) (wThen (wSet 12 (w2 rIxD (wV 3) (wV 8)))
      (wThen (wForget [4] (wSet 13 (w2 rEqT (wLc (wSeq (wV 7)) (bN 4) (wB (w2 rNeT (w2 rIxD (w2 rIxD (wV 3) (wV 4)) (wV 11)) (w2 rIxD (w2 rIxD (wV 3) (wV 4)) (wV 9)))) (wC (.int 1)) [4]) (wLst wNil))))
      (wIfS (wAndT (wTru (wV 13)) (wB (w2 rNeT (w2 rIxD (wV 12) (wV 11)) (w2 rIxD (wV 12) (wV 9))))) (wThen (wPair 16 17 (wCB rMin2D (wCons (w2 rIxD (wV 12) (wV 11)) (wCons (w2 rIxD (wV 12) (wV 9)) wNil))) (wCB rMax2D (wCons (w2 rIxD (wV 12) (wV 11)) (wCons (w2 rIxD (wV 12) (wV 9)) wNil))))
      (wThen (wSetI 3 (wV 8) (wLc (wSeq (wV 12)) (bN 18) wYes (wIf (wB (w2 rEqT (wV 18) (wV 17))) (wV 16) (wV 18)) [18]))
      (wSet 5 (wC (.bool true))))) wNext))))))))
      (wRet (wV 3))))))
section
variable {b : WB} {t : WT} {el : WE} {vs : List Nat} {k : List PyData → Dl → Prop} {δ : Dl} {wb : WS} {P : DEnds}
theorem go_filT {α : Type} (f : α → PyData) (tx : α → Bool) (g : α → PyData) : ∀ (xs : List α) (acc : List PyData),
    (∀ x ∈ xs, ∀ (C : PyData → Dl → Prop) (C' : Dl → Prop), (tx x = true → C (g x) δ) → (tx x = false → C' δ) → b (f x) δ fun δ1 => t δ1 fun c δ2 => if c = true then el δ2 fun y δ3 => noB y = true ∧ C y.as (wipeD δ3 vs) else C' (wipeD δ2 vs)) →
    k (acc ++ (xs.filter tx).map g) δ → wGo b t el vs k (xs.map f) acc δ
  | [], acc, _, h => by
    have h : k (acc ++ []) δ := h
    rw [List.append_nil] at h
    exact h
  | x :: r, acc, ht, h => by
    refine ht x List.mem_cons_self (fun y δ3 => wGo b t el vs k (r.map f) (acc ++ [y]) δ3) (fun δ2 => wGo b t el vs k (r.map f) acc δ2) (fun e => ?_) (fun e => ?_)
    · refine go_filT f tx g r _ (fun z hz => ht z (List.mem_cons_of_mem _ hz)) ?_
      rw [List.filter_cons_of_pos e, List.map_cons] at h
      rw [List.append_assoc]
      exact h
    · refine go_filT f tx g r _ (fun z hz => ht z (List.mem_cons_of_mem _ hz)) ?_
      rw [List.filter_cons_of_neg (by rw [e]; decide)] at h
      exact h
theorem go_mapT {α : Type} (f : α → PyData) (g : α → PyData) (xs : List α)
    (ht : ∀ x ∈ xs, ∀ (C : PyData → Dl → Prop) (C' : Dl → Prop), C (g x) δ → b (f x) δ fun δ1 => t δ1 fun c δ2 => if c = true then el δ2 fun y δ3 => noB y = true ∧ C y.as (wipeD δ3 vs) else C' (wipeD δ2 vs)) (h : k (xs.map g) δ) : wGo b t el vs k (xs.map f) [] δ := by
  refine go_filT f (fun _ => true) g xs [] (fun x hx C C' h1 _ => ht x hx C C' (h1 rfl)) ?_
  rw [List.filter_eq_self.mpr (by simp), List.nil_append]
  exact h
theorem go_invT {α : Type} (f : α → PyData) (I : Nat → List PyData → Dl → Prop) : ∀ (xs : List α) (n : Nat) (acc : List PyData) (δ : Dl),
    (∀ i x acc δ (C : List PyData → Dl → Prop), xs[i]? = some x → I (n + i) acc δ → (∀ acc' δ', I (n + i + 1) acc' δ' → C acc' δ') → b (f x) δ fun δ1 => t δ1 fun c δ2 => if c = true then el δ2 fun y δ3 => noB y = true ∧ C (acc ++ [y.as]) (wipeD δ3 vs) else C acc (wipeD δ2 vs)) →
    I n acc δ → (∀ acc δ, I (n + xs.length) acc δ → k acc δ) → wGo b t el vs k (xs.map f) acc δ
  | [], n, acc, δ, _, hi, h => h acc δ hi
  | x :: r, n, acc, δ, turn, hi, h => by
    refine turn 0 x acc δ (fun acc' δ' => wGo b t el vs k (r.map f) acc' δ') rfl hi fun acc' δ' hi' => ?_
    refine go_invT f I r (n + 1) acc' δ' (fun i y acc δ C hx hI hC => ?_) hi' fun acc δ hI => ?_
    · have e : n + 1 + i = n + (i + 1) := by omega
      rw [e] at hI hC
      exact turn (i + 1) y acc δ C hx hI hC
    · have e : n + 1 + r.length = n + (x :: r).length := by rw [List.length_cons]; omega
      rw [e] at hI
      exact h acc δ hI
theorem enumT {α : Type} (f : α → PyData) (xs : List α) : enumD 0 (xs.map f) = xs.zipIdx.map fun p => PyData.tuple [.int (p.2 : Nat), f p.1] := by
  rw [enumD_eq, List.zipIdx_map, List.map_map]
  rfl
theorem loopT {α : Type} (f : α → PyData) (xs : List α) (I : Nat → Dl → Prop) (h0 : I 0 δ) (turn : ∀ n x δ (C : Dl → Prop), xs[n]? = some x → I n δ → (∀ δ', I (n + 1) δ' → C δ') → b (f x) δ fun δ1 => wb { P with nx := C, ct := C, bk := P.nx } δ1)
    (hn : ∀ δ, I xs.length δ → P.nx δ) : wLoop b wb P (xs.map f) δ := by
  refine loop_inv I (xs.map f) ?_ _ _ 0 rfl (Nat.zero_le _) h0 (by rw [List.length_map]; exact hn)
  intro n x δ C hx hi hC
  rw [List.getElem?_map] at hx
  cases q : xs[n]? with
  | none => rw [q] at hx; cases hx
  | some y =>
    rw [q] at hx
    cases hx
    exact turn n y δ C q hi hC
theorem loopR {lo : Int} (n : Nat) (I : Nat → Dl → Prop) (h0 : I 0 δ) (turn : ∀ i δ (C : Dl → Prop), i < n → I i δ → (∀ δ', I (i + 1) δ' → C δ') → b (.int (lo + (i : Nat))) δ fun δ1 => wb { P with nx := C, ct := C, bk := P.nx } δ1)
    (hn : ∀ δ, I n δ → P.nx δ) : wLoop b wb P (rangeD lo n) δ := by
  rw [rangeD_eq]
  refine loopT _ (List.range n) I h0 (fun i x δ C hx hi hC => ?_) (by rw [List.length_range]; exact hn)
  have hlt : i < n := by
    have := (List.getElem?_eq_some_iff.mp hx).1
    rw [List.length_range] at this
    exact this
  rw [List.getElem?_range hlt] at hx
  cases hx
  exact turn i δ C hlt hi hC
end
theorem i0 (i : Nat) : (0 : Int) + (i : Nat) = (i : Nat) := Int.zero_add _
theorem colix {G : Marks} {m n c : Nat} {P : Rv → Prop} (h : Shp m n G) (hc : c < m) (q : P (.d (colD (G.getD c [])))) : rIxD (.list (marksD G)) (.int (c : Nat)) P := by
  refine lstix (atI_of (Int.natCast_nonneg _) ?_) q
  unfold marksD
  rw [Int.toNat_natCast, List.getElem?_map, (h.at hc).1]
  rfl
theorem mrkix {G : Marks} {m n c i : Nat} {P : Rv → Prop} (h : Shp m n G) (hc : c < m) (hi : i < n) (q : P (.d (.int (mrk G c i : Nat)))) : rIxD (colD (G.getD c [])) (.int (i : Nat)) P := by
  have l : i < (G.getD c []).length := by rw [(h.at hc).2]; exact hi
  refine lstix (atI_of (Int.natCast_nonneg _) ?_) q
  rw [Int.toNat_natCast, List.getElem?_map]
  unfold mrk
  rw [List.getD_eq_getElem?_getD (l := G.getD c []), List.getElem?_eq_getElem l]
  rfl
theorem rulesix {m : Int} {rs : List Cells} {i : Nat} (h : TabOk m rs) (hi : i < rs.length) : rs[i]? = some (rs.getD i []) := by
  rw [List.getD_eq_getElem?_getD, List.getElem?_eq_getElem hi]; rfl
theorem seqT {w w' : WS} {P : DEnds} {δ : Dl} (h : ∀ T : Dl → Prop, (T = fun δ1 => w' P δ1) → w { P with nx := T } δ) : wThen w w' P δ := h _ rfl
theorem hS_law_rows : ∀ δ P, S_law_rows δ P → ArgOk 3 δ ∧ wb_law_rows (endsOf δ P) (δ ++ List.replicate (10 - 3) Sl.un) := by
  rintro δ P ⟨xs, n, m, k, rfl, hp, hn, hm, hm2, hk, hk2, h⟩
  refine ⟨argO _ [.int m, .int k], ?_⟩
  unfold wb_law_rows
  walk_at "ds"
  refine ⟨rfl, xs, n, 3, rfl, hp, by omega, by decide, by decide, fun ys d hy d0 d3 => ?_⟩
  walk_at "ds"
  refine ⟨rfl, rfl, ys, n + 1, 4, rfl, hy, by omega, by decide, by decide, fun zs s hz s0 s4 => ?_⟩
  walk_at "ds"
  refine ⟨rfl, ?_⟩
  refine ⟨⟨rfl, by simp⟩, ⟨rfl, by simp⟩, ⟨rfl, by simp⟩, ⟨rfl, by simp⟩, ⟨rfl, by simp⟩, rfl, zs, n + 2, 4, rfl, hz, by omega, by decide, by decide, fun us q hu q0 q4 => ?_⟩
  walk_at "ds"
  have sz : ∃ v : List Int, atI [PyData.list [.int 0, .int 1, .int 2], .list [.int 0, .int 1, .int 2], .list [.int 2, .int 10, .int 100], .list [.int 9999, .int 30, .int 4]] q = some (.list (v.map PyData.int)) ∧ v.length = 3 ∧ ∀ x ∈ v, 0 ≤ x ∧ x ≤ 9999 ∧ x ≠ 5000 := by
    have w : q = 0 ∨ q = 1 ∨ q = 2 ∨ q = 3 := by omega
    rcases w with rfl | rfl | rfl | rfl
    · exact ⟨[0, 1, 2], rfl, rfl, by simp⟩
    · exact ⟨[0, 1, 2], rfl, rfl, by simp⟩
    · exact ⟨[2, 10, 100], rfl, rfl, by simp⟩
    · exact ⟨[9999, 30, 4], rfl, rfl, by simp⟩
  obtain ⟨v, ev, v1, v2⟩ := sz
  refine lstix ev ⟨rfl, ⟨rfl, by simp⟩, rfl, ?_⟩
  walk_at "ds"
  refine ⟨rfl, us, n + 3, k + 1, rfl, hu, by omega, by omega, by omega, fun ws r hw r0 r1 => ?_⟩
  walk_at "ds"
  refine ⟨⟨by omega, by omega⟩, ?_⟩
  refine loopR r.toNat (fun i δ => ∃ zs rs y3 y8 y9, δ = [.o zs, .d (.int m), .d (.int k), y3, .d (.int (1 + d)), .d (.int s), .d (.list (v.map PyData.int)), .o (rs.map rowD), y8, y9] ∧ rs.length = i ∧ (∀ r ∈ rs, RowOk m r ∧ (some 5000 : Option Int) ∉ r) ∧ Pen (n + 4 + 10 * i) zs) ⟨ws, [], _, _, _, rfl, rfl, by simp, hw⟩ ?_ ?_
  · rintro i δ C hi ⟨zs, rs, y3, y8, y9, rfl, g1, g2, g3⟩ hC
    walk_at "ds"
    refine ⟨⟨rfl, by simp⟩, ⟨by omega, by omega⟩, ?_⟩
    refine loopR m.toNat (fun j δ => ∃ us cs y9, δ = [.o us, .d (.int m), .d (.int k), .d (.int (0 + (i : Nat))), .d (.int (1 + d)), .d (.int s), .d (.list (v.map PyData.int)), .o (rs.map rowD), .o (cs.map cellD), y9] ∧ cs.length = j ∧ (∀ c ∈ cs, CellOk c ∧ c ≠ some 5000) ∧ Pen (n + 4 + 10 * i + 2 * j) us) ⟨zs, [], _, rfl, rfl, by simp, g3⟩ ?_ ?_
    · rintro j δ C2 hj ⟨us, cs, y9, rfl, c1, c2, c3⟩ hC2
      walk_at "ds"
      refine ⟨rfl, us, n + 4 + 10 * i + 2 * j, 4, rfl, c3, by omega, by decide, by decide, fun ws2 e hw2 e0 e4 => ?_⟩
      walk_at "ds"
      have snoc : ∀ c : Option Int, CellOk c ∧ c ≠ some 5000 → (∀ c' ∈ cs ++ [c], CellOk c' ∧ c' ≠ some 5000) := fun c hc c' hc' => by
        rcases List.mem_append.mp hc' with q | q
        · exact c2 c' q
        · obtain rfl : c' = c := by simpa using q
          exact hc
      refine ite2 (fun e => ?_) (fun e => ?_)
      · refine ⟨rfl, by rw [List.length_map]; omega, hC2 _ ⟨ws2, cs ++ [none], .d (.int (0 + (j : Nat))), ?_, by rw [List.length_append, c1]; rfl, snoc _ ⟨fun v hv => (by cases hv), by simp⟩, hw2.mono (by omega)⟩⟩
        rw [List.map_append]
        rfl
      · refine ⟨rfl, ws2, _, 1 + d, rfl, hw2, by omega, by omega, by omega, fun ws3 e3 hw3 e30 e31 => ?_⟩
        walk_at "ds"
        have he : e3.toNat < v.length := by omega
        refine lstix (z := .int v[e3.toNat]) (atI_of e30 ?_) ?_
        · rw [List.getElem?_map, List.getElem?_eq_getElem he]; rfl
        refine ⟨rfl, by rw [List.length_map]; omega, hC2 _ ⟨ws3, cs ++ [some v[e3.toNat]], .d (.int (0 + (j : Nat))), ?_, by rw [List.length_append, c1]; rfl, snoc _ ⟨fun u hu => (by cases hu; exact ⟨(v2 _ (List.getElem_mem he)).1, (v2 _ (List.getElem_mem he)).2.1⟩), fun z => (v2 _ (List.getElem_mem he)).2.2 (Option.some.inj z)⟩, hw3.mono (by omega)⟩⟩
        rw [List.map_append]
        rfl
    · rintro δ ⟨us, cs, y9, rfl, c1, c2, c3⟩
      walk_at "ds"
      refine ⟨rfl, rfl, by rw [List.length_map]; omega, hC _ ⟨us, rs ++ [cs], .d (.int (0 + (i : Nat))), .o (cs.map cellD), y9, ?_, by rw [List.length_append, g1]; rfl, ?_, c3.mono (by omega)⟩⟩
      · rw [List.map_append]
        rfl
      · intro r hr
        rcases List.mem_append.mp hr with q | q
        · exact g2 r q
        · obtain rfl : r = cs := by simpa using q
          exact ⟨⟨by omega, fun c hc => (c2 c hc).1⟩, fun z => (c2 _ z).2 rfl⟩
  · rintro δ ⟨zs, rs, y3, y8, y9, rfl, g1, g2, g3⟩
    walk_at "ds"
    exact ⟨rfl, h zs rs (g3.mono (by omega)) ⟨hm, hm2, by omega, fun r hr => (g2 r hr).1⟩ ⟨by omega, fun r hr => (g2 r hr).2⟩⟩
theorem mem_at {rl : List Rule} {i : Nat} {r : Rule} (h : rl[i]? = some r) : r ∈ rl := List.mem_of_getElem? h
theorem idx_ok {cs : Cells} {v : Int} (h : some v ∈ cs) : idxD (cs.map cellD) (.int v) = some (cs.findIdx fun z => decide (z = some v)) := by
  unfold idxD
  rw [List.findIdx?_map]
  have e : ((fun z => PyData.eqv z (.int v)) ∘ cellD) = fun z => decide (z = some v) := by
    funext z
    exact eqv_cell z (some v)
  rw [e]
  exact List.findIdx?_eq_some_iff_findIdx_eq.mpr ⟨List.findIdx_lt_length_of_exists ⟨_, h, by simp⟩, rfl⟩
theorem flat_cells (cs : Cells) : (cs.map cellD).all flat = true := by
  rw [List.all_eq_true]
  intro x hx
  obtain ⟨c, _, rfl⟩ := List.mem_map.mp hx
  cases c <;> rfl
theorem hS_law_joined : ∀ δ P, S_law_joined δ P → ArgOk 3 δ ∧ wb_law_joined (endsOf δ P) (δ ++ List.replicate (19 - 3) Sl.un) := by
  rintro δ P ⟨m, rs, rl, rfl, ht, hr, h⟩
  refine ⟨argD [.int m, rowsD rs, rulesD rl], ?_⟩
  have m1 := ht.lo
  have m5 := ht.hi
  have n8 := ht.few
  unfold wb_law_joined
  walk_at "ds"
  refine ⟨⟨rfl, by simp⟩, ⟨by omega, by omega⟩, ?_⟩
  refine loopR m.toNat (fun i δ => ∃ y4 y6, δ = [.d (.int m), .d (rowsD rs), .d (rulesD rl), .o (marksD ((List.range i).map fun c => initCol (colOf rs c))), y4, .un, y6, .un, .un, .un, .un, .un, .un, .un, .un, .un, .un, .un, .un]) ⟨_, _, rfl⟩ ?_ ?_
  · rintro i δ C hi ⟨y4, y6, rfl⟩ hC
    rw [i0]
    unfold rowsD
    walk_at "ds"
    refine ⟨⟨by rw [List.length_map]; omega, rfl⟩, ?_⟩
    refine go_mapT rowD (fun r => cellD (at_ r (i : Nat))) rs (fun r hr' C C' hc => ?_) ?_
    · have ro := ht.rows r hr'
      have l1 := ro.1
      walk_at "ds"
      refine ifT rfl (rowix (by omega) (by omega) ⟨rfl, hc⟩)
    walk_at "ds"
    have ecol : (rs.map fun r => cellD (at_ r (i : Nat))) = (colOf rs i).map cellD := by unfold colOf; rw [List.map_map]; rfl
    rw [ecol]
    refine ⟨⟨by rw [enumT, List.length_map]; simp [colOf]; omega, rfl⟩, ?_⟩
    rw [enumT]
    refine go_mapT _ (fun p : Option Int × Nat => PyData.int ((match p.1 with | none => p.2 | some v => (colOf rs i).findIdx fun z => decide (z = some v)) : Nat)) (colOf rs i).zipIdx (fun p hp C C' hc => ?_) ?_
    · walk_at "ds"
      refine ⟨rfl, ?_⟩
      obtain ⟨c, j⟩ := p
      cases c with
      | none =>
        refine ifT rfl ?_
        exact ⟨rfl, hc⟩
      | some v =>
        refine ifT rfl ?_
        refine is_ok (k := false) rfl ?_
        walk_at "ds"
        refine ifF rfl ?_
        have hm : some v ∈ colOf rs i := by
          have := List.mem_zipIdx hp
          have h2 := List.getElem_mem (l := colOf rs i) (n := j - 0) (by omega)
          rw [← this.2.2] at h2
          exact h2
        refine ⟨⟨rfl, flat_cells _⟩, ?_⟩
        show match idxD ((colOf rs i).map cellD) (.int v) with | some j => _ | none => False
        rw [idx_ok hm]
        exact ⟨rfl, hc⟩
    walk_at "ds"
    refine ⟨rfl, by unfold marksD; simp; omega, hC _ ⟨.d (.int (i : Nat)), .d (.list ((colOf rs i).map cellD)), ?_⟩⟩
    have e2 : marksD ((List.range (i + 1)).map fun c => initCol (colOf rs c)) = marksD ((List.range i).map fun c => initCol (colOf rs c)) ++ [PyData.list ((colOf rs i).zipIdx.map fun p : Option Int × Nat => PyData.int ((match p.1 with | none => p.2 | some v => (colOf rs i).findIdx fun z => decide (z = some v)) : Nat))] := by
      unfold marksD
      rw [List.range_succ, List.map_append, List.map_append]
      congr 1
      show [colD (initCol (colOf rs i))] = _
      unfold colD initCol
      rw [List.map_map]
      rfl
    rw [e2]
    rfl
  · rintro δ ⟨y4, y6, rfl⟩
    have hI : IG m.toNat rs rl (initG m.toNat rs) := init_ok
    walk_at "ds"
    have hrow : (rs.length : Int).toNat = rs.length := Int.toNat_natCast _
    refine ⟨fun v δ => ∃ G ag y4 y6 y7 y8 y9 y11 y12 y13 y16 y17, δ = [.d (.int m), .d (rowsD rs), .d (rulesD rl), .o (marksD G), y4, .d (.bool ag), y6, y7, y8, y9, .un, y11, y12, y13, .un, .un, y16, y17, .un] ∧ IG m.toNat rs rl G ∧ ((ag = true ∧ v = mu G + 1) ∨ (ag = false ∧ v = 0 ∧ ∀ r ∈ rl, ∀ lo hi, lo < hi → hi < rs.length → ClosedAt G r lo hi)), ⟨_, _, true, _, _, _, _, _, _, _, _, _, _, rfl, hI, .inl ⟨rfl, rfl⟩⟩, ?_⟩
    rintro v δ ⟨G0, ag, y4, y6, y7, y8, y9, y11, y12, y13, y16, y17, rfl, hG0, hv⟩
    walk_at "ds"
    rcases hv with ⟨rfl, rfl⟩ | ⟨rfl, rfl, hcl⟩
    · refine ifT rfl ?_
      unfold rulesD
      walk_at "ds"
      refine loopT ruleD rl (fun i δ => ∃ G ag y4 y7 y8 y9 y11 y12 y13 y16 y17, δ = [.d (.int m), .d (rowsD rs), .d (rulesD rl), .o (marksD G), y4, .d (.bool ag), y6, y7, y8, y9, .un, y11, y12, y13, .un, .un, y16, y17, .un] ∧ IG m.toNat rs rl G ∧ ((ag = false ∧ G = G0 ∧ ∀ r ∈ rl.take i, ∀ lo hi, lo < hi → hi < rs.length → ClosedAt G0 r lo hi) ∨ (ag = true ∧ mu G < mu G0))) ⟨G0, false, _, _, _, _, _, _, _, _, _, rfl, hG0, .inl ⟨rfl, rfl, by simp⟩⟩ ?_ ?_
      · rintro i r δ C hri ⟨G, ag, y4, y7, y8, y9, y11, y12, y13, y16, y17, rfl, hG, hst⟩ hC
        have rok := hr.all r (mem_at hri)
        have hlo := rok.lo
        have hhi := rok.hi
        unfold ruleD rowsD
        walk_at "ds"
        refine ⟨rfl, ⟨by omega, by rw [List.length_map]; omega⟩, ?_⟩
        rw [List.length_map]
        refine loopR (lo := 0) ((rs.length : Nat) : Int).toNat (fun j δ => ∃ G ag y4 y9 y11 y12 y13 y16 y17, δ = [.d (.int m), .d (rowsD rs), .d (rulesD rl), .o (marksD G), y4, .d (.bool ag), y6, .d (iT r.1), .d (.int r.2), y9, .un, y11, y12, y13, .un, .un, y16, y17, .un] ∧ IG m.toNat rs rl G ∧ ((ag = false ∧ G = G0 ∧ (∀ r ∈ rl.take i, ∀ lo hi, lo < hi → hi < rs.length → ClosedAt G0 r lo hi) ∧ ∀ lo hi, lo < hi → hi < j → ClosedAt G0 r lo hi) ∨ (ag = true ∧ mu G < mu G0))) ⟨G, ag, _, _, _, _, _, _, _, rfl, hG, hst.imp (fun ⟨a, b, c⟩ => ⟨a, b, c, fun lo hi _ z => by omega⟩) id⟩ ?_ ?_
        · rintro j δ C2 hj ⟨G, ag, y4, y9, y11, y12, y13, y16, y17, rfl, hG, hst⟩ hC2
          rw [i0]
          walk_at "ds"
          refine ⟨⟨by omega, by omega⟩, ?_⟩
          refine loopR (lo := 0) ((j : Nat) : Int).toNat (fun l δ => ∃ G ag y4 y11 y12 y13 y16 y17, δ = [.d (.int m), .d (rowsD rs), .d (rulesD rl), .o (marksD G), y4, .d (.bool ag), y6, .d (iT r.1), .d (.int r.2), .d (.int (j : Nat)), .un, y11, y12, y13, .un, .un, y16, y17, .un] ∧ IG m.toNat rs rl G ∧ ((ag = false ∧ G = G0 ∧ (∀ r ∈ rl.take i, ∀ lo hi, lo < hi → hi < rs.length → ClosedAt G0 r lo hi) ∧ (∀ lo hi, lo < hi → hi < j → ClosedAt G0 r lo hi) ∧ ∀ lo, lo < l → ClosedAt G0 r lo j) ∨ (ag = true ∧ mu G < mu G0))) ⟨G, ag, _, _, _, _, _, _, rfl, hG, hst.imp (fun ⟨a, b, c, d⟩ => ⟨a, b, c, d, fun lo z => by omega⟩) id⟩ ?_ ?_
          · rintro l δ C3 hl ⟨G, ag, y4, y11, y12, y13, y16, y17, rfl, hG, hst⟩ hC3
            rw [i0]
            have hjn : j < rs.length := by omega
            have hln : l < rs.length := by omega
            have hlj : l < j := by omega
            obtain ⟨t, et⟩ : ∃ t : Nat, r.2 = (t : Int) := ⟨r.2.toNat, by omega⟩
            have htm : t < m.toNat := by omega
            have et' : r.2.toNat = t := by rw [et]; rfl
            rw [et]
            walk_at "ds"
            refine ⟨rfl, colix hG.shp htm ?_⟩
            unfold iT
            walk_at "ds"
            refine ⟨⟨by rw [List.length_map]; have := rok.cols.few; omega, rfl⟩, ?_⟩
            refine go_filT PyData.int (fun g => !decide (mrk G g.toNat l = mrk G g.toNat j)) (fun _ => .int 1) r.1 [] (fun g hg C C' h1 h2 => ?_) ?_
            · have gi := rok.cols.inn g hg
              obtain ⟨gn, eg⟩ : ∃ gn : Nat, g = (gn : Int) := ⟨g.toNat, by omega⟩
              have gm : gn < m.toNat := by omega
              have eg' : g.toNat = gn := by rw [eg]; rfl
              rw [eg'] at h1 h2
              rw [eg]
              walk_at "ds"
              refine ⟨rfl, colix hG.shp gm ?_⟩
              walk_at "ds"
              refine mrkix hG.shp gm hln ?_
              walk_at "ds"
              refine ⟨rfl, colix hG.shp gm ?_⟩
              walk_at "ds"
              refine mrkix hG.shp gm hjn ?_
              walk_at "ds"
              refine ne_ok (k := decide (mrk G gn l = mrk G gn j)) rfl (by rw [eqv_int]; exact decide_eq_decide.mpr (by omega)) ?_
              walk_at "ds"
              cases e : (!decide (mrk G gn l = mrk G gn j)) with
              | true => exact ifT rfl ⟨rfl, h1 e⟩
              | false => exact ifF rfl (h2 e)
            rw [List.nil_append]
            generalize hap : (r.1.filter fun g => !decide (mrk G g.toNat l = mrk G g.toNat j)).map (fun _ => PyData.int 1) = ap
            have hem : ap.isEmpty = true ↔ ∀ g ∈ r.1, mrk G g.toNat l = mrk G g.toNat j := by
              rw [← hap, List.isEmpty_map, List.isEmpty_iff, List.filter_eq_nil_iff]
              constructor
              · intro q g hg
                have := q g hg
                simpa using this
              · intro q g hg
                have := q g hg
                simpa using this
            have hsh : SeqAt.shaped (.list ap) = true := shaped_flat fun x hx => by
              rw [← hap] at hx
              obtain ⟨_, _, rfl⟩ := List.mem_map.mp hx
              exact ⟨1, rfl⟩
            walk_at "ds"
            refine ⟨⟨rfl, by simp⟩, ?_⟩
            refine eq_ok (k := ap.isEmpty) ?_ (by rw [eqv_lnil]) ?_
            · show (SeqAt.shaped (.list ap) && SeqAt.shaped (.list [])) = true
              rw [hsh]; rfl
            walk_at "ds"
            have skip : ((∀ g ∈ r.1, mrk G g.toNat l = mrk G g.toNat j) → mrk G t l = mrk G t j) → ∀ y4 y11 y12 y13 y16 y17, C3 [.d (.int m), .d (rowsD rs), .d (rulesD rl), .o (marksD G), y4, .d (.bool ag), y6, .d (iT r.1), .d (.int r.2), .d (.int (j : Nat)), .un, y11, y12, y13, .un, .un, y16, y17, .un] := fun q y4 y11 y12 y13 y16 y17 => by
              refine hC3 _ ⟨G, ag, y4, y11, y12, y13, y16, y17, rfl, hG, hst.imp (fun ⟨a, b, c, d, e⟩ => ⟨a, b, c, d, fun lo z => ?_⟩) id⟩
              by_cases w : lo = l
              · rw [w, ← b]
                unfold ClosedAt
                rw [et']
                exact q
              · exact e lo (by omega)
            cases eap : ap.isEmpty with
            | false =>
              refine ifF rfl (ifF rfl ?_)
              have := skip (fun q => absurd (hem.mpr q) (by rw [eap]; decide)) .un (.d (.int (l : Nat))) (.d (colD (G.getD t []))) (.d (.bool false)) y16 y17
              rw [et] at this
              exact this
            | true =>
              refine ifT rfl ?_
              refine mrkix hG.shp htm hln ?_
              walk_at "ds"
              refine mrkix hG.shp htm hjn ?_
              walk_at "ds"
              refine ne_ok (k := decide (mrk G t l = mrk G t j)) rfl (by rw [eqv_int]; exact decide_eq_decide.mpr (by omega)) ?_
              walk_at "ds"
              cases ed : decide (mrk G t l = mrk G t j) with
              | true =>
                refine ifF rfl ?_
                have := skip (fun _ => of_decide_eq_true ed) .un (.d (.int (l : Nat))) (.d (colD (G.getD t []))) (.d (.bool true)) y16 y17
                rw [et] at this
                exact this
              | false =>
                have hne := of_decide_eq_false ed
                refine ifT rfl ?_
                refine mrkix hG.shp htm hln ?_
                walk_at "ds"
                refine mrkix hG.shp htm hjn ?_
                walk_at "ds"
                refine ⟨rfl, mrkix hG.shp htm hln ?_⟩
                walk_at "ds"
                refine mrkix hG.shp htm hjn ?_
                walk_at "ds"
                refine ⟨rfl, ?_⟩
                have e1 : (if ((mrk G t j : Nat) : Int) < (mrk G t l : Nat) then ((mrk G t j : Nat) : Int) else (mrk G t l : Nat)) = ((min (mrk G t l) (mrk G t j) : Nat) : Int) := by split <;> omega
                have e2 : (if ((mrk G t j : Nat) : Int) > (mrk G t l : Nat) then ((mrk G t j : Nat) : Int) else (mrk G t l : Nat)) = ((max (mrk G t l) (mrk G t j) : Nat) : Int) := by split <;> omega
                rw [e1, e2]
                generalize ea : min (mrk G t l) (mrk G t j) = a
                generalize eb : max (mrk G t l) (mrk G t j) = b
                have hcl : (G.getD t []).length = rs.length := (hG.shp.at htm).2
                unfold colD
                walk_at "ds"
                refine ⟨⟨by rw [List.length_map]; omega, rfl⟩, ?_⟩
                refine go_mapT (fun n : Nat => PyData.int (n : Nat)) (fun x : Nat => PyData.int (lower a b x : Nat)) (G.getD t []) (fun x hx C C' hc => ?_) ?_
                · walk_at "ds"
                  refine ifT rfl ?_
                  refine eq_ok (k := decide (x = b)) rfl (by rw [eqv_int]; exact decide_eq_decide.mpr (by omega)) ?_
                  walk_at "ds"
                  unfold lower at hc
                  cases ex : decide (x = b) with
                  | true =>
                    rw [if_pos (of_decide_eq_true ex)] at hc
                    exact ifT rfl ⟨rfl, hc⟩
                  | false =>
                    rw [if_neg (of_decide_eq_false ex)] at hc
                    exact ifF rfl ⟨rfl, hc⟩
                walk_at "ds"
                refine ⟨rfl, ?_⟩
                have ei : ixN (marksD G).length ((t : Nat) : Int) = some t := by
                  unfold ixN marksD
                  rw [if_pos (by omega), if_pos (by rw [List.length_map, hG.shp.cols]; omega)]
                  rfl
                rw [ei]
                dsimp only
                have hst2 : IG m.toNat rs rl (stepG G t l j) := by
                  have := hG.step (mem_at hri) (lo := l) (hi := j) (by rw [et']; exact htm) hln hjn (fun g hg => by have := rok.cols.inn g hg; omega) (hem.mp eap) (by rw [et']; exact hne)
                  rw [et'] at this
                  exact this
                have hmu : mu (stepG G t l j) < mu G := step_mu hG.shp htm hln hjn hne
                refine hC3 _ ⟨stepG G t l j, true, .un, .d (.int (l : Nat)), .d (colD (G.getD t [])), .d (.bool true), .d (.int (a : Nat)), .d (.int (b : Nat)), ?_, hst2, .inr ⟨rfl, ?_⟩⟩
                · have es : (marksD G).set t (.list ((G.getD t []).map fun x : Nat => PyData.int (lower a b x : Nat))) = marksD (stepG G t l j) := by
                    unfold marksD stepG
                    rw [ea, eb, List.map_set]
                    unfold colD
                    rw [List.map_map]
                    rfl
                  rw [← es, et]
                  rfl
                · rcases hst with ⟨_, z, _⟩ | ⟨_, z⟩
                  · rw [z] at hmu ⊢; exact hmu
                  · omega
          · rintro δ ⟨G, ag, y4, y11, y12, y13, y16, y17, rfl, hG, hst⟩
            refine hC2 _ ⟨G, ag, y4, .d (.int (j : Nat)), y11, y12, y13, y16, y17, rfl, hG, hst.imp (fun ⟨a, b, c, d, e⟩ => ⟨a, b, c, fun lo hi z1 z2 => ?_⟩) id⟩
            by_cases w : hi = j
            · rw [w]; exact e lo (by omega)
            · exact d lo hi z1 (by omega)
        · rintro δ ⟨G, ag, y4, y9, y11, y12, y13, y16, y17, rfl, hG, hst⟩
          refine hC _ ⟨G, ag, y4, _, _, y9, y11, y12, y13, y16, y17, rfl, hG, hst.imp (fun ⟨a, b, c, d⟩ => ⟨a, b, fun q hq lo hi z1 z2 => ?_⟩) id⟩
          rw [List.take_add_one, hri] at hq
          rcases List.mem_append.mp hq with hq | hq
          · exact c q hq lo hi z1 z2
          · obtain rfl : q = r := by simpa using hq
            exact d lo hi z1 (by omega)
      · rintro δ ⟨G, ag, y4, y7, y8, y9, y11, y12, y13, y16, y17, rfl, hG, hst⟩
        rcases hst with ⟨rfl, rfl, c⟩ | ⟨rfl, c⟩
        · rw [List.take_length] at c
          exact ⟨0, by omega, G, false, y4, y6, y7, y8, y9, y11, y12, y13, y16, y17, rfl, hG, .inr ⟨rfl, rfl, c⟩⟩
        · exact ⟨mu G + 1, by omega, G, true, y4, y6, y7, y8, y9, y11, y12, y13, y16, y17, rfl, hG, .inl ⟨rfl, rfl⟩⟩
    · refine ifF rfl ?_
      exact ⟨by decide, h G0 (hG0.done hcl)⟩
end B

namespace B
open PySem PySem.Spec PyProof.Rows L2 Dw
local macro_rules | `(tactic| walk_at "ds") => `(tactic| try dsimp only [wRet, wRetN, wThen, wIfS, wIf, wNotT, wTru, wB, w2, wV, wC, wCons, wNil, wCall, wCallO, wCallO1, endO, wCB, wLc, wSeq, wYes, wNext, wNever, wDrop, wSet, wAsg, wPair, wFor, wTup, wLst, wAndV, wOrV, wNotV, wNeg, wAndT, wOrT, wIsi, wChain, wSlice, wPart, wNo, wZip, wEnum, wRng1, wRng2, wLc2, wApp, wApp1, wPop, wPop1, wExt, wExt1, wSetI, wSetI1, wSetD, wIdx, wIdx1, wExtL, wExtL1, wLenM, wNotInM, wGetM, wPutM, wPutM1, wSetK, wTri, wForget, rCatTD, rCatLD, intsR, Option.map_some, bN, bTup, bCons, bNil, as_d, as_l, as_b, noB_d, noB_l, still_d, still_l, still_b, put_d, put_l, tru_bool, tru_tup, tru_lst, isT_tup, isI_int, isB_int, stillA_nil, stillA_cons, map0, map1, map2, map3, len_l, len_t, tup_l, tup_t, lst_l, lst_t, max_i, min_i, List.all_cons, List.all_nil, Bool.and_self, Bool.and_true, Bool.not_true, Bool.not_false, List.getElem?_cons_zero, List.getElem?_cons_succ, List.cons_append, List.nil_append, List.append_nil, List.reduceReplicate, Nat.reduceSub, Nat.sub_self, rI1, rI2, rAddD, rSubD, rMulD, rDivD, rModD, rPowD, rLtD, rLeD, rGtD, rGeD, List.set_cons_zero, List.set_cons_succ, List.set_nil, endsOf, outD, wipeD])
/-- slots: 0 law_rows_here, 1 law_groups, 2 law_column, 3 law_first, 4 law_found, 5 law_at, 6 law_row -/
def wb_law_values : WS := (wThen (wSet 4 (wLst wNil))
      (wThen (wFor (wEnum (wCons (wV 0) wNil)) (bTup 2 (bCons (bN 5) (bCons (bN 6) bNil))) (wIfS (wAndT (wB (w2 rEqT (w2 rIxD (w2 rIxD (wV 1) (wV 2)) (wV 5)) (wV 3))) (wAndT (wB (w2 (rIsT true) (w2 rIxD (wV 6) (wV 2)) (wC .none))) (wB (w2 (rInT true) (w2 rIxD (wV 6) (wV 2)) (wV 4))))) (wDrop (wApp 4 (w2 rIxD (wV 6) (wV 2)))) wNext))
      (wRet (wV 4))))
/-- slots: 0 law_rows_here, 1 law_groups, 2 law_column, 3 law_group, 4 law_first -/
def wb_law_is_clash : WS := (wThen (wFor (wEnum (wCons (wV 1) wNil)) (bTup 2 (bCons (bN 2) (bCons (bN 3) bNil))) (wIfS (wB (w2 rNeT (wLc (wSeq (wV 3)) (bN 4) (wB (w2 rGtD (wCB rLenD (wCons (wCall S_law_values (wCons (wV 0) (wCons (wV 1) (wCons (wV 2) (wCons (wV 4) wNil))))) wNil)) (wC (.int 1)))) (wC (.int 1)) [4]) (wLst wNil))) (wRet (wC (.bool true))) wNext))
      (wRet (wC (.bool false))))
theorem isnot_ok {d : PyData} {P : Rv → Prop} {k : Bool} (q : isNo d = k) (h : P (.d (.bool (!k)))) : rIsT true d .none P := by
  subst q
  exact h
theorem in_ints (v : Int) (l : List Int) : inD (.int v) (l.map PyData.int) = decide (v ∈ l) := by
  unfold inD
  rw [List.any_map]
  have e : ((fun y => PyData.eqv y (.int v)) ∘ PyData.int) = fun a => decide (a = v) := by
    funext a
    exact eqv_int a v
  rw [e]
  induction l with
  | nil => rfl
  | cons a l ih =>
    rw [List.any_cons, ih]
    by_cases q : a = v
    · subst q; simp
    · have : decide (a = v) = false := decide_eq_false q
      rw [this, Bool.false_or]
      exact decide_eq_decide.mpr ⟨fun z => List.mem_cons_of_mem _ z, fun z => (List.mem_cons.mp z).resolve_left fun w => q w.symm⟩
theorem flat_intsL (l : List Int) : (l.map PyData.int).all flat = true := by
  rw [List.all_eq_true]
  intro x hx
  obtain ⟨c, _, rfl⟩ := List.mem_map.mp hx
  rfl
theorem notin_ok {v : Int} {l : List Int} {P : Rv → Prop} (h : P (.d (.bool (!decide (v ∈ l))))) : rInT true (.int v) (.list (l.map PyData.int)) P := by
  refine ⟨⟨rfl, flat_intsL l⟩, ?_⟩
  rw [in_ints]
  exact h
theorem filt_empty {α : Type} (p : α → Bool) : ∀ l : List α, (l.filter p).isEmpty = !(l.any p)
  | [] => rfl
  | x :: l => by
    cases e : p x with
    | true => rw [List.filter_cons_of_pos e, List.any_cons, e]; rfl
    | false => rw [List.filter_cons_of_neg (by rw [e]; decide), List.any_cons, e, filt_empty p l]; rfl
theorem zip_at {α : Type} {xs : List α} {i : Nat} {p : α × Nat} (h : xs.zipIdx[i]? = some p) : xs[i]? = some p.1 ∧ p.2 = i ∧ i < xs.length := by
  rw [List.getElem?_zipIdx] at h
  cases q : xs[i]? with
  | none => rw [q] at h; cases h
  | some x =>
    rw [q] at h
    cases h
    exact ⟨rfl, by simp, (List.getElem?_eq_some_iff.mp q).1⟩
theorem hS_law_values : ∀ δ P, S_law_values δ P → ArgOk 4 δ ∧ wb_law_values (endsOf δ P) (δ ++ List.replicate (7 - 4) Sl.un) := by
  rintro δ P ⟨m, rs, G, c, f, rfl, ht, hs, hc, h⟩
  refine ⟨argD [rowsD rs, .list (marksD G), .int c, .int f], ?_⟩
  have m1 := ht.lo
  have m5 := ht.hi
  have n8 := ht.few
  unfold wb_law_values rowsD
  walk_at "ds"
  refine ⟨⟨rfl, by simp⟩, ?_⟩
  rw [enumT]
  refine loopT _ rs.zipIdx (fun i δ => ∃ y5 y6, δ = [.d (rowsD rs), .d (.list (marksD G)), .d (.int (c : Nat)), .d (.int (f : Nat)), .o (((rs.zipIdx.take i).foldl (valStep G c f) []).map PyData.int), y5, y6] ∧ ((rs.zipIdx.take i).foldl (valStep G c f) []).length ≤ i) ⟨_, _, rfl, Nat.le_refl _⟩ ?_ ?_
  · rintro i ⟨r, k⟩ δ C hx ⟨y5, y6, rfl, hl⟩ hC
    obtain ⟨hr, hk, hi⟩ := zip_at hx
    have hk : k = i := hk
    subst hk
    have ro := ht.rows r (List.mem_of_getElem? hr)
    have l1 := ro.1
    have et : rs.zipIdx.take (k + 1) = rs.zipIdx.take k ++ [(r, k)] := by rw [List.take_add_one, hx]; rfl
    rw [et, List.foldl_append] at hC
    generalize (rs.zipIdx.take k).foldl (valStep G c f) [] = acc at hC hl
    have skip : valStep G c f acc (r, k) = acc → C [.d (rowsD rs), .d (.list (marksD G)), .d (.int (c : Nat)), .d (.int (f : Nat)), .o (acc.map PyData.int), .d (.int (k : Nat)), .d (rowD r)] := fun e => hC _ ⟨_, _, by show _ = [_, _, _, _, Sl.o ((valStep G c f acc (r, k)).map PyData.int), _, _]; rw [e], by show (valStep G c f acc (r, k)).length ≤ _; rw [e]; omega⟩
    walk_at "ds"
    refine ⟨rfl, ?_⟩
    refine colix hs hc ?_
    walk_at "ds"
    refine mrkix hs hc hi ?_
    walk_at "ds"
    refine eq_ok (k := decide (mrk G c k = f)) rfl (by rw [eqv_int]; exact decide_eq_decide.mpr (by omega)) ?_
    walk_at "ds"
    cases e1 : decide (mrk G c k = f) with
    | false =>
      refine ifF rfl (ifF rfl (skip ?_))
      have := of_decide_eq_false e1
      unfold valStep
      split
      · rw [if_neg fun z => this z.1]
      · rfl
    | true =>
      have e1 := of_decide_eq_true e1
      refine ifT rfl ?_
      refine rowix (by omega) (by omega) ?_
      walk_at "ds"
      cases ec : at_ r ((c : Nat) : Int) with
      | none =>
        refine isnot_ok (d := cellD none) (k := true) rfl ?_
        walk_at "ds"
        refine ifF rfl (ifF rfl (skip ?_))
        unfold valStep
        rw [ec]
      | some v =>
        refine isnot_ok (d := cellD (some v)) (k := false) rfl ?_
        walk_at "ds"
        refine ifT rfl ?_
        refine rowix (by omega) (by omega) ?_
        rw [ec]
        walk_at "ds"
        refine notin_ok ?_
        walk_at "ds"
        cases e3 : decide (v ∈ acc) with
        | true =>
          refine ifF rfl (skip ?_)
          have := of_decide_eq_true e3
          unfold valStep
          rw [ec]
          show (if _ then _ else _) = _
          rw [if_neg fun z => z.2 this]
        | false =>
          have e3 := of_decide_eq_false e3
          refine ifT rfl ?_
          refine rowix (by omega) (by omega) ?_
          rw [ec]
          refine ⟨rfl, by rw [List.length_map]; omega, ?_⟩
          have ev : valStep G c f acc (r, k) = acc ++ [v] := by
            unfold valStep
            rw [ec]
            show (if _ then _ else _) = _
            rw [if_pos ⟨e1, e3⟩]
          refine hC _ ⟨.d (.int (k : Nat)), .d (rowD r), ?_, ?_⟩
          · show _ = [_, _, _, _, Sl.o ((valStep G c f acc (r, k)).map PyData.int), _, _]
            rw [ev, List.map_append]
            rfl
          · show (valStep G c f acc (r, k)).length ≤ _
            rw [ev, List.length_append]
            simp
            omega
  · rintro δ ⟨y5, y6, rfl, hl⟩
    rw [List.take_length]
    walk_at "ds"
    exact ⟨by decide, h⟩
theorem hS_law_is_clash : ∀ δ P, S_law_is_clash δ P → ArgOk 2 δ ∧ wb_law_is_clash (endsOf δ P) (δ ++ List.replicate (5 - 2) Sl.un) := by
  rintro δ P ⟨m, rs, G, rfl, ht, hs, h⟩
  refine ⟨argD [rowsD rs, .list (marksD G)], ?_⟩
  have m1 := ht.lo
  have m5 := ht.hi
  have n8 := ht.few
  have hcols := hs.cols
  unfold wb_law_is_clash marksD
  walk_at "ds"
  rw [enumT]
  refine loopT _ G.zipIdx (fun i δ => ∃ y2 y3, δ = [.d (rowsD rs), .d (.list (marksD G)), y2, y3, .un] ∧ ∀ c, c < i → ((G.getD c []).any fun f => decide (1 < (vals rs G c f).length)) = false) ⟨_, _, rfl, fun c z => by omega⟩ ?_ ?_
  · rintro i ⟨col, k⟩ δ C hx ⟨y2, y3, rfl, hno⟩ hC
    obtain ⟨hr, hk, hi⟩ := zip_at hx
    have hk : k = i := hk
    subst hk
    have ecol : G.getD k [] = col := by rw [List.getD_eq_getElem?_getD, hr]; rfl
    have hcl := hs.rows col (List.mem_of_getElem? hr)
    unfold colD
    walk_at "ds"
    refine ⟨rfl, ?_⟩
    refine ⟨⟨by rw [List.length_map]; omega, rfl⟩, ?_⟩
    refine go_filT (fun n : Nat => PyData.int (n : Nat)) (fun f => decide (1 < (vals rs G k f).length)) (fun _ => PyData.int 1) col [] (fun f hf C C' h1 h2 => ?_) ?_
    · walk_at "ds"
      refine ⟨rfl, m, rs, G, k, f, rfl, ht, hs, by omega, ?_⟩
      walk_at "ds"
      rw [List.length_map]
      have eb : decide ((1 : Int) < ((vals rs G k f).length : Nat)) = decide (1 < (vals rs G k f).length) := decide_eq_decide.mpr (by omega)
      rw [eb]
      cases e : decide (1 < (vals rs G k f).length) with
      | true => exact ifT rfl ⟨rfl, h1 e⟩
      | false => exact ifF rfl (h2 e)
    rw [List.nil_append]
    generalize hap : (col.filter fun f => decide (1 < (vals rs G k f).length)).map (fun _ => PyData.int 1) = ap
    have hem : ap.isEmpty = !(col.any fun f => decide (1 < (vals rs G k f).length)) := by
      rw [← hap, List.isEmpty_map, filt_empty]
    have hsh : SeqAt.shaped (.list ap) = true := shaped_flat fun x hx => by
      rw [← hap] at hx
      obtain ⟨_, _, rfl⟩ := List.mem_map.mp hx
      exact ⟨1, rfl⟩
    walk_at "ds"
    refine ⟨⟨rfl, by simp⟩, ?_⟩
    refine ne_ok (k := ap.isEmpty) ?_ (by rw [eqv_lnil]) ?_
    · show (SeqAt.shaped (.list ap) && SeqAt.shaped (.list [])) = true
      rw [hsh]; rfl
    walk_at "ds"
    rw [hem, Bool.not_not]
    cases ea : col.any fun f => decide (1 < (vals rs G k f).length) with
    | true =>
      refine ifT rfl ?_
      have : clash rs G = true := by
        unfold clash
        rw [List.any_eq_true]
        exact ⟨k, List.mem_range.mpr hi, by rw [ecol]; exact ea⟩
      rw [this] at h
      exact h
    | false =>
      refine ifF rfl (hC _ ⟨.d (.int (k : Nat)), .d (colD col), rfl, fun c z => ?_⟩)
      by_cases w : c = k
      · rw [w, ecol]; exact ea
      · exact hno c (by omega)
  · rintro δ ⟨y2, y3, rfl, hno⟩
    rw [List.length_zipIdx] at hno
    walk_at "ds"
    have : clash rs G = false := by
      unfold clash
      rw [List.any_eq_false]
      intro c hc
      rw [hno c (List.mem_range.mp hc)]
      decide
    rw [this] at h
    exact h
end B

namespace B
open PySem PySem.Spec PyProof.Rows L2 Dw
local macro_rules | `(tactic| walk_at "ds") => `(tactic| try dsimp only [wRet, wRetN, sPu, wThenX, wIfX, wRetX, wDropX, wSetX, wCallX, wCallP, uPu, wPu, uConsX, wRaise, wDc, wGet1, wGet2, wGetT, wThen, wIfS, wIf, wNotT, wTru, wB, w2, wV, wC, wCons, wNil, wCall, wCallO, wCallO1, endO, wCB, wLc, wSeq, wYes, wNext, wNever, wDrop, wSet, wAsg, wPair, wFor, wTup, wLst, wAndV, wOrV, wNotV, wNeg, wAndT, wOrT, wIsi, wChain, wSlice, wPart, wNo, wZip, wEnum, wRng1, wRng2, wLc2, wApp, wApp1, wPop, wPop1, wExt, wExt1, wSetI, wSetI1, wSetD, wIdx, wIdx1, wExtL, wExtL1, wLenM, wNotInM, wGetM, wPutM, wPutM1, wSetK, wTri, wForget, rCatTD, rCatLD, intsR, Option.map_some, bN, bTup, bCons, bNil, as_d, as_l, as_b, noB_d, noB_l, still_d, still_l, still_b, put_d, put_l, tru_bool, tru_tup, tru_lst, isT_tup, isI_int, isB_int, stillA_nil, stillA_cons, map0, map1, map2, map3, len_l, len_t, tup_l, tup_t, lst_l, lst_t, max_i, min_i, List.all_cons, List.all_nil, Bool.and_self, Bool.and_true, Bool.not_true, Bool.not_false, List.getElem?_cons_zero, List.getElem?_cons_succ, List.cons_append, List.nil_append, List.append_nil, List.reduceReplicate, Nat.reduceSub, Nat.sub_self, rI1, rI2, rAddD, rSubD, rMulD, rDivD, rModD, rPowD, rLtD, rLeD, rGtD, rGeD, List.set_cons_zero, List.set_cons_succ, List.set_nil, endsOf, outD, wipeD])
/-! ### known rows -/
def lotStep (G : Marks) (c : Nat) (acc : List (Int × Int)) (p : Cells × Nat) : List (Int × Int) := match at_ p.1 (c : Nat) with
  | some v => putI acc ((mrk G c p.2 : Nat) : Int) v
  | none => acc
def lotK (rs : List Cells) (G : Marks) (c : Nat) : List (Int × Int) := rs.zipIdx.foldl (lotStep G c) []
def kn (rs : List Cells) (G : Marks) (i c : Nat) : Option Int := lookI (lotK rs G c) ((mrk G c i : Nat) : Int)
def knownOf (m : Nat) (rs : List Cells) (G : Marks) : List Cells := (List.range rs.length).map fun i => (List.range m).map fun c => kn rs G i c
def keepsB (rs ws : List Cells) : Bool := ((rs.zip ws).flatMap fun p => (p.1.zip p.2).map fun q => q.1.isNone || decide (q.1 = q.2)).all id
def S_lot_values : WE := fun δ P => ∃ (m : Int) (rs : List Cells) (G : Marks), δ = [.d (tabD m rs), .d (.list (marksD G))] ∧ TabOk m rs ∧ Shp m.toNat rs.length G ∧ P (.l ((List.range m.toNat).map fun c => dkD (lotK rs G c))) δ
def S_known_rows : WE := fun δ P => ∃ (m : Int) (rs : List Cells) (G : Marks), δ = [.d (tabD m rs), .d (.list (marksD G))] ∧ TabOk m rs ∧ Shp m.toNat rs.length G ∧ P (.d (rowsD (knownOf m.toNat rs G))) δ
def S_keeps_values : WE := fun δ P => ∃ (rs ws : List Cells), δ = [.d (rowsD rs), .d (rowsD ws)] ∧ rs.length ≤ 8 ∧ (∀ r ∈ rs, r.length ≤ 5) ∧ P (.d (.bool (keepsB rs ws))) δ
def S_has_clash : WE := fun δ P => ∃ (m : Int) (rs : List Cells) (G : Marks), δ = [.d (tabD m rs), .d (.list (marksD G))] ∧ TabOk m rs ∧ Shp m.toNat rs.length G ∧ P (.d (.bool (clash rs G))) δ
def oneL : Option Int → List Int
  | some v => [v]
  | none => []
/-- slots: 0 table, 1 marks, 2 many, 3 rows, 4 column, 5 mark, 6 cells -/
def wb_lot_values : WS := (wThen (wAsg (wV 0) (bTup 2 (bCons (bN 2) (bCons (bN 3) bNil))))
      (wRet (wLc (wRng1 (wCons (wV 2) wNil)) (bN 4) wYes (wDc (wZip (wCons (w2 rIxD (wV 1) (wV 4)) (wCons (wV 3) wNil))) (bTup 2 (bCons (bN 5) (bCons (bN 6) bNil))) (wB (w2 (rIsT true) (w2 rIxD (wV 6) (wV 4)) (wC .none))) (wV 5) (w2 rIxD (wV 6) (wV 4)) [5, 6]) [4])))
/-- slots: 0 table, 1 marks, 2 values, 3 many, 4 rows, 5 row, 6 column -/
def wb_known_rows : WS := (wThen (wAsg (wV 0) (bTup 2 (bCons (bN 3) (bCons (bN 4) bNil))))
      (wThen (wSetD 2 (wCall S_lot_values (wCons (wV 0) (wCons (wV 1) wNil))))
      (wRet (wCB rTupleD (wCons (wLc (wRng1 (wCons (wCB rLenD (wCons (wV 4) wNil)) wNil)) (bN 5) wYes (wCB rTupleD (wCons (wLc (wRng1 (wCons (wV 3) wNil)) (bN 6) wYes (wGet1 (w2 rIxD (wV 2) (wV 6)) (w2 rIxD (w2 rIxD (wV 1) (wV 6)) (wV 5))) [6]) wNil)) [5]) wNil)))))
/-- slots: 0 rows, 1 others, 2 cells, 3 other_cells, 4 cell, 5 other -/
def wb_keeps_values : WS := (wRet (wCB rAllD (wCons (wLc2 (wZip (wCons (wV 0) (wCons (wV 1) wNil))) (bTup 2 (bCons (bN 2) (bCons (bN 3) bNil))) wYes (wZip (wCons (wV 2) (wCons (wV 3) wNil))) (bTup 2 (bCons (bN 4) (bCons (bN 5) bNil))) wYes (wOrV (w2 (rIsT false) (wV 4) (wC .none)) (w2 rEqT (wV 4) (wV 5))) [2, 3, 4, 5] [4, 5]) wNil)))
/-- slots: 0 table, 1 marks -/
def wb_has_clash : WS := (wRet (wNotV (wCall S_keeps_values (wCons (w2 rIxD (wV 0) (wC (.int 1))) (wCons (wCall S_known_rows (wCons (wV 0) (wCons (wV 1) wNil))) wNil)))))
theorem zipT {α β : Type} (f : α → PyData) (g : β → PyData) : ∀ (xs : List α) (ys : List β), zipD (xs.map f) (ys.map g) = (xs.zip ys).map fun p => PyData.tuple [f p.1, g p.2]
  | [], ys => by cases ys <;> rfl
  | x :: xs, [] => rfl
  | x :: xs, y :: ys => by
    show PyData.tuple [f x, g y] :: zipD (xs.map f) (ys.map g) = _
    rw [zipT f g xs ys]; rfl
section
variable {b b1 : WB} {t t1 : WT} {el wk wv : WE} {wi1 : WI} {vs vs1 : List Nat} {k : List PyData → Dl → Prop} {kd : List (Int × Int) → Dl → Prop} {δ : Dl}
theorem go_mapA {α : Type} (f : α → PyData) (g : α → PyData) (xs : List α) (acc : List PyData)
    (ht : ∀ x ∈ xs, ∀ (C : PyData → Dl → Prop) (C' : Dl → Prop), C (g x) δ → b (f x) δ fun δ1 => t δ1 fun c δ2 => if c = true then el δ2 fun y δ3 => noB y = true ∧ C y.as (wipeD δ3 vs) else C' (wipeD δ2 vs)) (h : k (acc ++ xs.map g) δ) : wGo b t el vs k (xs.map f) acc δ := by
  refine go_filT f (fun _ => true) g xs acc (fun x hx C C' h1 _ => ht x hx C C' (h1 rfl)) ?_
  rw [List.filter_eq_self.mpr (by simp)]
  exact h
theorem go2T {α : Type} (f : α → PyData) (g : α → List PyData) : ∀ (xs : List α) (acc : List PyData), (∀ x ∈ xs, ∀ (acc : List PyData) (C : List PyData → Dl → Prop), C (acc ++ g x) δ → b (f x) δ fun δ1 => t δ1 fun c δ2 => if c = true then wi1 δ2 fun ds1 δ3 => (ds1.length ≤ 1000 ∧ unAll δ3 vs1 = true) ∧ wGo b1 t1 el vs1 (fun acc' δ4 => C acc' (wipeD δ4 vs)) ds1 acc δ3 else C acc (wipeD δ2 vs)) →
    k (acc ++ xs.flatMap g) δ → wGo2 b t wi1 b1 t1 el vs vs1 k (xs.map f) acc δ
  | [], acc, _, h => by
    have h : k (acc ++ []) δ := h
    rw [List.append_nil] at h
    exact h
  | x :: r, acc, ht, h => by
    refine ht x List.mem_cons_self acc (fun acc' δ4 => wGo2 b t wi1 b1 t1 el vs vs1 k (r.map f) acc' δ4) ?_
    refine go2T f g r _ (fun z hz => ht z (List.mem_cons_of_mem _ hz)) ?_
    rw [List.flatMap_cons] at h
    rw [List.append_assoc]
    exact h
theorem goD_fold {α : Type} (h : α → PyData) (f : List (Int × Int) → α → List (Int × Int)) : ∀ (xs : List α) (acc : List (Int × Int)),
    (∀ x ∈ xs, ∀ (acc : List (Int × Int)) (C : List (Int × Int) → Dl → Prop), C (f acc x) δ → b (h x) δ fun δ1 => t δ1 fun c δ2 => if c = true then wk δ2 fun y δ3 => wv δ3 fun z δ4 => (match y, z with
      | .d (.int i), .d (.int j) => C (putI acc i j) (wipeD δ4 vs)
      | _, _ => False) else C acc (wipeD δ2 vs)) → kd (xs.foldl f acc) δ → wGoD b t wk wv vs kd (xs.map h) acc δ
  | [], acc, _, q => q
  | x :: r, acc, ht, q => ht x List.mem_cons_self acc (fun acc' δ' => wGoD b t wk wv vs kd (r.map h) acc' δ') (goD_fold h f r (f acc x) (fun y hy => ht y (List.mem_cons_of_mem _ hy)) q)
end
theorem optD_cell (o : Option Int) : optD o = cellD o := by cases o <;> rfl
theorem cell_int {c : Option Int} {v : Int} (h : c = some v) : cellD c = .int v := by rw [h]; rfl
theorem hS_lot_values : ∀ δ P, S_lot_values δ P → ArgOk 2 δ ∧ wb_lot_values (endsOf δ P) (δ ++ List.replicate (7 - 2) Sl.un) := by
  rintro δ P ⟨m, rs, G, rfl, ht, hs, h⟩
  refine ⟨argD [tabD m rs, .list (marksD G)], ?_⟩
  have m1 := ht.lo
  have m5 := ht.hi
  have n8 := ht.few
  unfold wb_lot_values tabD
  walk_at "ds"
  refine ⟨rfl, ?_⟩
  refine ⟨⟨by omega, by omega⟩, ⟨by rw [rangeD_len]; omega, rfl⟩, ?_⟩
  rw [rangeD_eq]
  refine go_mapT _ (fun c : Nat => dkD (lotK rs G c)) (List.range m.toNat) (fun c hc C C' hC => ?_) ?_
  · have hc := List.mem_range.mp hc
    rw [i0]
    walk_at "ds"
    refine ifT rfl ?_
    refine colix hs hc ?_
    unfold colD rowsD
    walk_at "ds"
    refine ⟨rfl, ?_⟩
    have hl := (hs.at hc).2
    rw [zipT]
    refine ⟨⟨by rw [List.length_map, List.length_zip]; omega, rfl⟩, ?_⟩
    refine goD_fold _ (fun acc (p : Nat × Cells) => match at_ p.2 (c : Nat) with | some v => putI acc ((p.1 : Nat) : Int) v | none => acc) ((G.getD c []).zip rs) [] (fun p hp acc C2 h2 => ?_) ?_
    · have ro := ht.rows p.2 (List.of_mem_zip hp).2
      have l1 := ro.1
      walk_at "ds"
      refine ⟨rfl, rowix (by omega) (by omega) ?_⟩
      walk_at "ds"
      cases e : at_ p.2 (c : Nat) with
      | none =>
        rw [e] at h2
        refine isnot_ok (k := true) rfl ?_
        walk_at "ds"
        exact ifF rfl h2
      | some v =>
        rw [e] at h2
        refine isnot_ok (k := false) rfl ?_
        walk_at "ds"
        refine ifT rfl (rowix (by omega) (by omega) ?_)
        rw [e]
        exact h2
    have e : ((G.getD c []).zip rs).foldl (fun acc (p : Nat × Cells) => match at_ p.2 (c : Nat) with | some v => putI acc ((p.1 : Nat) : Int) v | none => acc) [] = lotK rs G c := by
      unfold lotK
      have ez : (G.getD c []).zip rs = rs.zipIdx.map fun p => (mrk G c p.2, p.1) := by
        apply List.ext_getElem?
        intro i
        rw [List.getElem?_map, List.getElem?_zipIdx]
        by_cases hi : i < rs.length
        · have hi2 : i < (G.getD c []).length := by rw [hl]; exact hi
          rw [List.getElem?_eq_getElem hi]
          rw [List.getElem?_eq_getElem (by rw [List.length_zip]; omega), List.getElem_zip]
          simp only [Option.map_some, Nat.zero_add]
          unfold mrk
          rw [List.getD_eq_getElem?_getD (l := G.getD c []), List.getElem?_eq_getElem hi2]
          rfl
        · rw [List.getElem?_eq_none (by rw [List.length_zip]; omega), List.getElem?_eq_none (by omega)]
          rfl
      rw [ez, List.foldl_map]
      rfl
    rw [e]
    walk_at "ds"
    exact ⟨rfl, hC⟩
  exact h
theorem dicts_at {m c : Nat} {rs : List Cells} {G : Marks} (hc : c < m) : atI ((List.range m).map fun c => dkD (lotK rs G c)) ((c : Nat) : Int) = some (dkD (lotK rs G c)) := by
  refine atI_of (Int.natCast_nonneg _) ?_
  rw [Int.toNat_natCast, List.getElem?_map, List.getElem?_range hc]
  rfl
theorem hS_known_rows : ∀ δ P, S_known_rows δ P → ArgOk 2 δ ∧ wb_known_rows (endsOf δ P) (δ ++ List.replicate (7 - 2) Sl.un) := by
  rintro δ P ⟨m, rs, G, rfl, ht, hs, h⟩
  refine ⟨argD [tabD m rs, .list (marksD G)], ?_⟩
  have m1 := ht.lo
  have m5 := ht.hi
  have n8 := ht.few
  unfold wb_known_rows
  refine seqT fun T hT => ?_
  unfold tabD
  walk_at "ds"
  refine ⟨rfl, ?_⟩
  subst hT
  refine seqT fun T hT => ?_
  walk_at "ds"
  refine ⟨rfl, m, rs, G, rfl, ht, hs, ?_⟩
  walk_at "ds"
  subst hT
  unfold rowsD
  walk_at "ds"
  rw [List.length_map]
  refine ⟨⟨by omega, by omega⟩, ⟨by rw [rangeD_len]; omega, rfl⟩, ?_⟩
  rw [rangeD_eq]
  refine go_mapT _ (fun i : Nat => rowD ((List.range m.toNat).map fun c => kn rs G i c)) (List.range ((rs.length : Nat) : Int).toNat) (fun i hi C C' hC => ?_) ?_
  · have hi : i < rs.length := by simpa using hi
    rw [i0]
    walk_at "ds"
    refine ifT rfl ?_
    refine ⟨⟨by omega, by omega⟩, ⟨by rw [rangeD_len]; omega, rfl⟩, ?_⟩
    rw [rangeD_eq]
    refine go_mapT _ (fun c : Nat => cellD (kn rs G i c)) (List.range m.toNat) (fun c hc C C' hC => ?_) ?_
    · have hc := List.mem_range.mp hc
      rw [i0]
      walk_at "ds"
      refine ifT rfl ?_
      refine lstix (dicts_at hc) ?_
      refine ⟨_, rfl, ?_⟩
      walk_at "ds"
      refine colix hs hc ?_
      walk_at "ds"
      refine mrkix hs hc hi ?_
      refine ⟨_, rfl, ?_⟩
      rw [optD_cell]
      exact ⟨rfl, hC⟩
    walk_at "ds"
    refine ⟨rfl, ?_⟩
    have e : ((List.range m.toNat).map fun c : Nat => cellD (kn rs G i c)) = ((List.range m.toNat).map fun c => kn rs G i c).map cellD := by rw [List.map_map]; rfl
    rw [e]
    exact hC
  walk_at "ds"
  have e : ((List.range ((rs.length : Nat) : Int).toNat).map fun i : Nat => rowD ((List.range m.toNat).map fun c => kn rs G i c)) = (knownOf m.toNat rs G).map rowD := by
    unfold knownOf
    rw [List.map_map, Int.toNat_natCast]
    rfl
  rw [e]
  exact h
theorem hS_keeps_values : ∀ δ P, S_keeps_values δ P → ArgOk 2 δ ∧ wb_keeps_values (endsOf δ P) (δ ++ List.replicate (6 - 2) Sl.un) := by
  rintro δ P ⟨rs, ws, rfl, n8, r5, h⟩
  refine ⟨argD [rowsD rs, rowsD ws], ?_⟩
  unfold wb_keeps_values rowsD
  walk_at "ds"
  refine ⟨rfl, ?_⟩
  rw [zipT]
  refine ⟨⟨by rw [List.length_map, List.length_zip]; omega, rfl⟩, ?_⟩
  refine go2T _ (fun p : Cells × Cells => (p.1.zip p.2).map fun q => PyData.bool (q.1.isNone || decide (q.1 = q.2))) (rs.zip ws) [] (fun p hp acc C hC => ?_) ?_
  · have l5 := r5 p.1 (List.of_mem_zip hp).1
    walk_at "ds"
    refine ⟨rfl, ?_⟩
    refine ifT rfl ?_
    unfold rowD
    walk_at "ds"
    refine ⟨rfl, ?_⟩
    rw [zipT]
    refine ⟨⟨by rw [List.length_map, List.length_zip]; omega, rfl⟩, ?_⟩
    refine go_mapA _ (fun q : Option Int × Option Int => PyData.bool (q.1.isNone || decide (q.1 = q.2))) (p.1.zip p.2) acc (fun q hq C2 C' h2 => ?_) ?_
    · walk_at "ds"
      refine ⟨rfl, ?_⟩
      refine ifT rfl ?_
      refine is_ok (k := q.1.isNone) (cell_none q.1) ?_
      walk_at "ds"
      cases e : q.1.isNone with
      | true =>
        rw [e] at h2
        exact ifT rfl ⟨rfl, h2⟩
      | false =>
        rw [e] at h2
        refine ifF rfl ?_
        refine eq_ok (k := decide (q.1 = q.2)) (ok_cell _ _) (eqv_cell _ _) ?_
        exact ⟨rfl, h2⟩
    exact hC
  rw [List.nil_append]
  walk_at "ds"
  refine all_ok (xs := _) ((rs.zip ws).flatMap fun (p : Cells × Cells) => (p.1.zip p.2).map fun (q : Option Int × Option Int) => q.1.isNone || decide (q.1 = q.2)) ?_ ?_
  rotate_left
  · exact h
  rw [List.map_flatMap]
  simp only [List.map_map]
  rfl
/-! ### two values of one lot -/
theorem look_put {κ : Type} [DecidableEq κ] (kvs : List (κ × Int)) (k j : κ) (v : Int) : lookI (putI kvs k v) j = if j = k then some v else lookI kvs j := by
  unfold putI
  split
  · rename_i h
    unfold lookI
    induction kvs with
    | nil => simp at h
    | cons p r ih =>
      rw [List.map_cons, List.find?_cons, List.find?_cons]
      by_cases e : p.1 = k
      · rw [if_pos e]
        by_cases ej : j = k
        · subst ej
          simp [e]
        · have n1 : ¬ p.1 = j := fun z => ej (z.symm.trans e)
          rw [if_neg ej]
          simp only [n1, decide_false]
          by_cases hr : (r.any fun p => decide (p.1 = k)) = true
          · have := ih hr
            rw [if_neg ej] at this
            exact this
          · have e2 : (r.map fun p => if p.1 = k then (p.1, v) else p) = r := by
              rw [List.map_congr_left (g := id), List.map_id]
              intro q hq
              have : ¬ q.1 = k := fun z => hr (List.any_eq_true.mpr ⟨q, hq, decide_eq_true z⟩)
              rw [if_neg this]; rfl
            rw [e2]
      · rw [if_neg e]
        have hr : (r.any fun p => decide (p.1 = k)) = true := by
          rw [List.any_cons] at h
          simpa [e] using h
        have := ih hr
        by_cases ej : p.1 = j
        · have : ¬ j = k := fun z => e (ej.trans z)
          rw [if_neg this]
          simp [ej]
        · simp only [ej, decide_false]
          exact this
  · rename_i h
    unfold lookI
    rw [List.find?_append]
    by_cases ej : j = k
    · subst ej
      rw [if_pos rfl]
      have : kvs.find? (fun p => decide (p.1 = j)) = none := by
        rw [List.find?_eq_none]
        intro q hq z
        exact h (List.any_eq_true.mpr ⟨q, hq, z⟩)
      rw [this]
      simp
    · rw [if_neg ej]
      have : ([(k, v)] : List (κ × Int)).find? (fun p => decide (p.1 = j)) = none := by
        have n2 : ¬ k = j := fun z => ej z.symm
        simp [n2]
      rw [this]
      simp
theorem lot_fold {G : Marks} {c : Nat} (f : Int) : ∀ (ps : List (Cells × Nat)) (acc : List (Int × Int)),
    (lookI (ps.foldl (lotStep G c) acc) f = none → lookI acc f = none ∧ ∀ p ∈ ps, ((mrk G c p.2 : Nat) : Int) = f → at_ p.1 (c : Nat) = none) ∧
    ∀ v, lookI (ps.foldl (lotStep G c) acc) f = some v → lookI acc f = some v ∨ ∃ p ∈ ps, ((mrk G c p.2 : Nat) : Int) = f ∧ at_ p.1 (c : Nat) = some v
  | [], acc => ⟨fun h => ⟨h, fun p hp => by simp at hp⟩, fun v h => .inl h⟩
  | p :: ps, acc => by
    obtain ⟨h1, h2⟩ := lot_fold f ps (lotStep G c acc p)
    rw [List.foldl_cons]
    have st : lookI (lotStep G c acc p) f = match at_ p.1 (c : Nat) with | some v => if f = ((mrk G c p.2 : Nat) : Int) then some v else lookI acc f | none => lookI acc f := by
      unfold lotStep
      cases at_ p.1 (c : Nat) with
      | none => rfl
      | some v => exact look_put _ _ _ _
    refine ⟨fun h => ?_, fun v h => ?_⟩
    · obtain ⟨a, b⟩ := h1 h
      rw [st] at a
      cases e : at_ p.1 (c : Nat) with
      | none =>
        rw [e] at a
        refine ⟨a, fun q hq z => ?_⟩
        rcases List.mem_cons.mp hq with rfl | hq
        · exact e
        · exact b q hq z
      | some v =>
        rw [e] at a
        by_cases z : f = ((mrk G c p.2 : Nat) : Int)
        · simp [z] at a
        · simp only [z, if_false] at a
          refine ⟨a, fun q hq w => ?_⟩
          rcases List.mem_cons.mp hq with rfl | hq
          · exact absurd w.symm z
          · exact b q hq w
    · rcases h2 v h with a | ⟨q, hq, a⟩
      · rw [st] at a
        cases e : at_ p.1 (c : Nat) with
        | none => rw [e] at a; exact .inl a
        | some u =>
          rw [e] at a
          by_cases z : f = ((mrk G c p.2 : Nat) : Int)
          · simp only [z, if_true] at a
            cases a
            exact .inr ⟨p, List.mem_cons_self, z.symm, e⟩
          · simp only [z, if_false] at a
            exact .inl a
      · exact .inr ⟨q, List.mem_cons_of_mem _ hq, a⟩
theorem mem_zipI {rs : List Cells} {p : Cells × Nat} (h : p ∈ rs.zipIdx) : p.2 < rs.length ∧ p.1 = rs.getD p.2 [] := by
  obtain ⟨r, i⟩ := p
  have := List.mem_zipIdx h
  simp only [Nat.zero_add, Nat.sub_zero] at this
  refine ⟨this.2.1, ?_⟩
  rw [List.getD_eq_getElem?_getD, List.getElem?_eq_getElem this.2.1]
  exact this.2.2
theorem zipI_mem {rs : List Cells} {i : Nat} (h : i < rs.length) : (rs.getD i [], i) ∈ rs.zipIdx := by
  rw [List.mem_iff_getElem?]
  refine ⟨i, ?_⟩
  rw [List.getElem?_zipIdx, List.getElem?_eq_getElem h, List.getD_eq_getElem?_getD, List.getElem?_eq_getElem h]
  simp
theorem kn_none {rs : List Cells} {G : Marks} {i c : Nat} (h : kn rs G i c = none) : ∀ j, j < rs.length → mrk G c j = mrk G c i → cel rs j c = none := fun j hj e =>
  ((lot_fold _ rs.zipIdx []).1 h).2 _ (zipI_mem hj) (by rw [e])
theorem kn_some {rs : List Cells} {G : Marks} {i c : Nat} {v : Int} (h : kn rs G i c = some v) : ∃ j, j < rs.length ∧ mrk G c j = mrk G c i ∧ cel rs j c = some v := by
  rcases (lot_fold _ rs.zipIdx []).2 v h with z | ⟨p, hp, e1, e2⟩
  · simp [lookI] at z
  · obtain ⟨h1, h2⟩ := mem_zipI hp
    exact ⟨p.2, h1, by omega, by unfold cel; rw [← h2]; exact e2⟩
theorem val_fold {G : Marks} {c f : Nat} {v : Int} : ∀ (ps : List (Cells × Nat)) (acc : List Int), (v ∈ ps.foldl (valStep G c f) acc ↔ v ∈ acc ∨ ∃ p ∈ ps, mrk G c p.2 = f ∧ at_ p.1 (c : Nat) = some v) ∧ (acc.Nodup → (ps.foldl (valStep G c f) acc).Nodup)
  | [], acc => ⟨by simp, fun h => h⟩
  | p :: ps, acc => by
    obtain ⟨h1, h2⟩ := val_fold (v := v) ps (valStep G c f acc p)
    rw [List.foldl_cons]
    have st : (v ∈ valStep G c f acc p ↔ v ∈ acc ∨ (mrk G c p.2 = f ∧ at_ p.1 (c : Nat) = some v)) ∧ (acc.Nodup → (valStep G c f acc p).Nodup) := by
      unfold valStep
      cases e : at_ p.1 (c : Nat) with
      | none => exact ⟨by simp, fun h => h⟩
      | some u =>
        simp only []
        by_cases z : mrk G c p.2 = f ∧ u ∉ acc
        · rw [if_pos z]
          refine ⟨?_, fun hn => ?_⟩
          · rw [List.mem_append, List.mem_singleton]
            constructor
            · rintro (a | rfl)
              · exact .inl a
              · exact .inr ⟨z.1, rfl⟩
            · rintro (a | ⟨_, a⟩)
              · exact .inl a
              · cases a; exact .inr rfl
          · rw [List.nodup_append]
            refine ⟨hn, by simp, fun a ha b hb => ?_⟩
            rw [List.mem_singleton] at hb
            rintro rfl
            exact z.2 (hb ▸ ha)
        · rw [if_neg z]
          refine ⟨⟨fun a => .inl a, ?_⟩, fun hn => hn⟩
          rintro (a | ⟨a, q⟩)
          · exact a
          · cases q
            exact Decidable.byContradiction fun w => z ⟨a, w⟩
    refine ⟨?_, fun hn => h2 (st.2 hn)⟩
    rw [h1, st.1]
    constructor
    · rintro ((a | a) | ⟨q, hq, a⟩)
      · exact .inl a
      · exact .inr ⟨p, List.mem_cons_self, a⟩
      · exact .inr ⟨q, List.mem_cons_of_mem _ hq, a⟩
    · rintro (a | ⟨q, hq, a⟩)
      · exact .inl (.inl a)
      · rcases List.mem_cons.mp hq with rfl | hq
        · exact .inl (.inr a)
        · exact .inr ⟨q, hq, a⟩
theorem mem_vals {rs : List Cells} {G : Marks} {c f : Nat} {v : Int} : v ∈ vals rs G c f ↔ ∃ i, i < rs.length ∧ mrk G c i = f ∧ cel rs i c = some v := by
  unfold vals
  rw [(val_fold rs.zipIdx []).1]
  constructor
  · rintro (a | ⟨p, hp, e1, e2⟩)
    · simp at a
    · obtain ⟨h1, h2⟩ := mem_zipI hp
      exact ⟨p.2, h1, e1, by unfold cel; rw [← h2]; exact e2⟩
  · rintro ⟨i, hi, e1, e2⟩
    exact .inr ⟨_, zipI_mem hi, e1, e2⟩
theorem nodup_vals {rs : List Cells} {G : Marks} {c f : Nat} : (vals rs G c f).Nodup := (val_fold (v := 0) rs.zipIdx []).2 List.nodup_nil
theorem two_of {l : List Int} (hn : l.Nodup) (h : 1 < l.length) : ∃ a b, a ∈ l ∧ b ∈ l ∧ a ≠ b := by
  match l, hn, h with
  | a :: b :: r, hn, _ => exact ⟨a, b, by simp, by simp, fun e => (List.nodup_cons.mp hn).1 (by rw [e]; simp)⟩
theorem of_two {l : List Int} {a b : Int} (ha : a ∈ l) (hb : b ∈ l) (h : a ≠ b) : 1 < l.length := by
  match l, ha, hb with
  | [], ha, _ => simp at ha
  | [x], ha, hb => rw [List.mem_singleton] at ha hb; exact absurd (ha.trans hb.symm) h
  | x :: y :: r, _, _ => simp
theorem mrk_mem {m n : Nat} {G : Marks} (h : Shp m n G) {c i : Nat} (hc : c < m) (hi : i < n) : mrk G c i ∈ G.getD c [] := by
  have l := (h.at hc).2
  have hl : i < (G.getD c []).length := by rw [l]; exact hi
  unfold mrk
  rw [List.getD_eq_getElem?_getD (l := G.getD c []), List.getElem?_eq_getElem hl]
  exact List.getElem_mem _
theorem mem_mrk {m n : Nat} {G : Marks} (h : Shp m n G) {c f : Nat} (hc : c < m) (hf : f ∈ G.getD c []) : ∃ i, i < n ∧ mrk G c i = f := by
  have l := (h.at hc).2
  obtain ⟨i, hi, e⟩ := List.getElem_of_mem hf
  refine ⟨i, by rw [← l]; exact hi, ?_⟩
  unfold mrk
  rw [List.getD_eq_getElem?_getD (l := G.getD c []), List.getElem?_eq_getElem hi]
  exact e
theorem clash_iff {m : Nat} {rs : List Cells} {G : Marks} (hs : Shp m rs.length G) : clash rs G = true ↔ ∃ c i j v u, c < m ∧ i < rs.length ∧ j < rs.length ∧ mrk G c i = mrk G c j ∧ cel rs i c = some v ∧ cel rs j c = some u ∧ v ≠ u := by
  unfold clash
  rw [List.any_eq_true]
  constructor
  · rintro ⟨c, hc, h⟩
    rw [List.mem_range, hs.cols] at hc
    rw [List.any_eq_true] at h
    obtain ⟨f, hf, h⟩ := h
    obtain ⟨v, u, hv, hu, ne⟩ := two_of nodup_vals (of_decide_eq_true h)
    obtain ⟨i, hi, e1, e2⟩ := mem_vals.mp hv
    obtain ⟨j, hj, e3, e4⟩ := mem_vals.mp hu
    exact ⟨c, i, j, v, u, hc, hi, hj, e1.trans e3.symm, e2, e4, ne⟩
  · rintro ⟨c, i, j, v, u, hc, hi, hj, e, e1, e2, ne⟩
    refine ⟨c, by rw [List.mem_range, hs.cols]; exact hc, ?_⟩
    rw [List.any_eq_true]
    exact ⟨mrk G c i, mrk_mem hs hc hi, decide_eq_true (of_two (mem_vals.mpr ⟨i, hi, rfl, e1⟩) (mem_vals.mpr ⟨j, hj, e.symm, e2⟩) ne)⟩
theorem keeps_iff {rs ws : List Cells} : keepsB rs ws = true ↔ ∀ p ∈ rs.zip ws, ∀ q ∈ p.1.zip p.2, q.1 = none ∨ q.1 = q.2 := by
  unfold keepsB
  rw [List.all_eq_true]
  constructor
  · intro h p hp q hq
    have := h _ (List.mem_flatMap.mpr ⟨p, hp, List.mem_map.mpr ⟨q, hq, rfl⟩⟩)
    simp only [id, Bool.or_eq_true, Option.isNone_iff_eq_none, decide_eq_true_eq] at this
    exact this
  · intro h x hx
    obtain ⟨p, hp, hx⟩ := List.mem_flatMap.mp hx
    obtain ⟨q, hq, rfl⟩ := List.mem_map.mp hx
    simp only [id, Bool.or_eq_true, Option.isNone_iff_eq_none, decide_eq_true_eq]
    exact h p hp q hq
theorem cel_at {m : Int} {rs : List Cells} (ht : TabOk m rs) {i c : Nat} (hi : i < rs.length) (hc : c < m.toNat) : ∃ h : c < (rs.getD i []).length, cel rs i c = (rs.getD i [])[c] := by
  have e : rs.getD i [] ∈ rs := by
    rw [List.getD_eq_getElem?_getD, List.getElem?_eq_getElem hi]
    exact List.getElem_mem _
  have l := (ht.rows _ e).1
  have h : c < (rs.getD i []).length := by omega
  refine ⟨h, ?_⟩
  unfold cel at_
  rw [Int.toNat_natCast, List.getD_eq_getElem?_getD (l := rs.getD i []), List.getElem?_eq_getElem h]
  rfl
theorem keeps_known {m : Int} {rs : List Cells} {G : Marks} (ht : TabOk m rs) : keepsB rs (knownOf m.toNat rs G) = true ↔ ∀ i c, i < rs.length → c < m.toNat → cel rs i c = none ∨ cel rs i c = kn rs G i c := by
  rw [keeps_iff]
  have row : ∀ i, i < rs.length → (rs.zip (knownOf m.toNat rs G))[i]? = some (rs.getD i [], (List.range m.toNat).map fun c => kn rs G i c) := fun i hi => by
    have l2 : (knownOf m.toNat rs G).length = rs.length := by unfold knownOf; simp
    rw [List.getElem?_eq_getElem (by rw [List.length_zip]; omega), List.getElem_zip]
    congr 1
    rw [List.getD_eq_getElem?_getD, List.getElem?_eq_getElem hi]
    unfold knownOf
    simp
  have cell : ∀ i c, i < rs.length → c < m.toNat → ((rs.getD i []).zip ((List.range m.toNat).map fun c => kn rs G i c))[c]? = some (cel rs i c, kn rs G i c) := fun i c hi hc => by
    obtain ⟨h, e⟩ := cel_at ht hi hc
    rw [List.getElem?_eq_getElem (by rw [List.length_zip, List.length_map, List.length_range]; omega), List.getElem_zip, e]
    simp
  constructor
  · intro h i c hi hc
    exact h _ (List.mem_of_getElem? (row i hi)) _ (List.mem_of_getElem? (cell i c hi hc))
  · intro h p hp q hq
    obtain ⟨i, hi, e⟩ := List.getElem_of_mem hp
    have hi' : i < rs.length := by rw [List.length_zip] at hi; omega
    have e2 := (List.getElem?_eq_getElem hi).symm.trans (row i hi')
    rw [e] at e2
    cases e2
    obtain ⟨c, hc, e⟩ := List.getElem_of_mem hq
    have hc' : c < m.toNat := by rw [List.length_zip, List.length_map, List.length_range] at hc; omega
    have e2 := (List.getElem?_eq_getElem hc).symm.trans (cell i c hi' hc')
    rw [e] at e2
    cases e2
    exact h i c hi' hc'
theorem keeps_clash {m : Int} {rs : List Cells} {G : Marks} (ht : TabOk m rs) (hs : Shp m.toNat rs.length G) : keepsB rs (knownOf m.toNat rs G) = !clash rs G := by
  have key : keepsB rs (knownOf m.toNat rs G) = true ↔ ¬ clash rs G = true := by
    rw [keeps_known ht, clash_iff hs]
    constructor
    · rintro h ⟨c, i, j, v, u, hc, hi, hj, e, e1, e2, ne⟩
      have h1 := (h i c hi hc).resolve_left (by rw [e1]; simp)
      have h2 := (h j c hj hc).resolve_left (by rw [e2]; simp)
      have : kn rs G i c = kn rs G j c := by unfold kn; rw [e]
      rw [← h1, ← h2, e1, e2] at this
      exact ne (Option.some.inj this)
    · intro h i c hi hc
      cases e : cel rs i c with
      | none => exact .inl rfl
      | some v =>
        refine .inr ?_
        cases e2 : kn rs G i c with
        | none => rw [kn_none e2 i hi rfl] at e; cases e
        | some u =>
          obtain ⟨j, hj, q1, q2⟩ := kn_some e2
          by_cases ne : v = u
          · rw [ne]
          · exact absurd ⟨c, i, j, v, u, hc, hi, hj, q1.symm, e, q2, ne⟩ h
  cases q : clash rs G with
  | true =>
    rw [q] at key
    cases w : keepsB rs (knownOf m.toNat rs G) with
    | true => exact absurd rfl (key.mp w)
    | false => rfl
  | false => rw [q] at key; exact key.mpr (by simp)
/-- without a clash a lot has one value at most -/
theorem kn_vals {m : Nat} {rs : List Cells} {G : Marks} (hs : Shp m rs.length G) (nc : clash rs G = false) {i c : Nat} (hi : i < rs.length) (hc : c < m) : vals rs G c (mrk G c i) = oneL (kn rs G i c) := by
  have one : ∀ a b, a ∈ vals rs G c (mrk G c i) → b ∈ vals rs G c (mrk G c i) → a = b := fun a b ha hb => Decidable.byContradiction fun ne => by
    obtain ⟨j, hj, e1, e2⟩ := mem_vals.mp ha
    obtain ⟨k, hk, e3, e4⟩ := mem_vals.mp hb
    have := (clash_iff hs).mpr ⟨c, j, k, a, b, hc, hj, hk, e1.trans e3.symm, e2, e4, ne⟩
    rw [nc] at this
    cases this
  have hn := nodup_vals (rs := rs) (G := G) (c := c) (f := mrk G c i)
  cases e : kn rs G i c with
  | none =>
    show _ = []
    rw [List.eq_nil_iff_forall_not_mem]
    intro v hv
    obtain ⟨j, hj, e1, e2⟩ := mem_vals.mp hv
    rw [kn_none e j hj e1] at e2
    cases e2
  | some v =>
    show _ = [v]
    obtain ⟨j, hj, q1, q2⟩ := kn_some e
    have hv : v ∈ vals rs G c (mrk G c i) := mem_vals.mpr ⟨j, hj, q1, q2⟩
    match q : vals rs G c (mrk G c i), hn, hv, one with
    | [], _, hv, _ => simp at hv
    | [x], _, hv, _ => rw [List.mem_singleton] at hv; rw [hv]
    | x :: y :: r, hn, _, one => exact absurd (one x y (by simp) (by simp)) fun e => (List.nodup_cons.mp hn).1 (by rw [e]; simp)
theorem hS_has_clash : ∀ δ P, S_has_clash δ P → ArgOk 2 δ ∧ wb_has_clash (endsOf δ P) (δ ++ List.replicate (2 - 2) Sl.un) := by
  rintro δ P ⟨m, rs, G, rfl, ht, hs, h⟩
  refine ⟨argD [tabD m rs, .list (marksD G)], ?_⟩
  unfold wb_has_clash
  walk_at "ds"
  refine tupix (xs := [.int m, rowsD rs]) (z := rowsD rs) rfl ?_
  refine ⟨rfl, m, rs, G, rfl, ht, hs, ?_⟩
  walk_at "ds"
  refine ⟨rfl, rs, knownOf m.toNat rs G, rfl, ht.few, fun r hr => ?_, ?_⟩
  · have := (ht.rows r hr).1
    have := ht.hi
    omega
  walk_at "ds"
  rw [keeps_clash ht hs, Bool.not_not]
  exact h
end B

namespace B
open PySem PySem.Spec PyProof.Rows L2 Dw
local macro_rules | `(tactic| walk_at "ds") => `(tactic| try dsimp only [wRet, wRetN, sPu, wThenX, wIfX, wRetX, wDropX, wSetX, wCallX, wCallP, uPu, wPu, uConsX, wRaise, wDc, wDcT, wDZ, wD1, wGet1, wGet2, wGetT, wThen, wIfS, wIf, wNotT, wTru, wB, w2, wV, wC, wCons, wNil, wCall, wCallO, wCallO1, endO, wCB, wLc, wSeq, wYes, wNext, wNever, wDrop, wSet, wAsg, wPair, wFor, wTup, wLst, wAndV, wOrV, wNotV, wNeg, wAndT, wOrT, wIsi, wChain, wSlice, wPart, wNo, wZip, wEnum, wRng1, wRng2, wLc2, wApp, wApp1, wPop, wPop1, wExt, wExt1, wSetI, wSetI1, wSetD, wIdx, wIdx1, wExtL, wExtL1, wLenM, wNotInM, wGetM, wPutM, wPutM1, wSetK, wTri, wForget, rCatTD, rCatLD, intsR, Option.map_some, bN, bTup, bCons, bNil, as_d, as_l, as_b, noB_d, noB_l, still_d, still_l, still_b, put_d, put_l, tru_bool, tru_tup, tru_lst, isT_tup, isI_int, isB_int, stillA_nil, stillA_cons, map0, map1, map2, map3, len_l, len_t, tup_l, tup_t, lst_l, lst_t, max_i, min_i, List.all_cons, List.all_nil, Bool.and_self, Bool.and_true, Bool.not_true, Bool.not_false, List.getElem?_cons_zero, List.getElem?_cons_succ, List.cons_append, List.nil_append, List.append_nil, List.reduceReplicate, Nat.reduceSub, Nat.sub_self, rI1, rI2, rAddD, rSubD, rMulD, rDivD, rModD, rPowD, rLtD, rLeD, rGtD, rGeD, List.set_cons_zero, List.set_cons_succ, List.set_nil, endsOf, outD, wipeD])
/-! ### general fillings -/
def had (rs : List Cells) : List Int := rs.flatMap fun r => r.filterMap id
def freshL (rs : List Cells) (k : Nat) : List Nat := (List.range k).filter fun x : Nat => !decide (((x : Nat) : Int) ∈ had rs)
def isF (rs : List Cells) (G : Marks) (r c : Nat) : Bool := decide (mrk G c r = r) && (kn rs G r c).isNone
def firP (rs : List Cells) (G : Marks) (r j : Nat) : List (Nat × Nat) := ((List.range j).filter fun c => isF rs G r c).map fun c => (r, c)
def firB (m : Nat) (rs : List Cells) (G : Marks) (k : Nat) : List (Nat × Nat) := (List.range k).flatMap fun r => firP rs G r m
def firL (m : Nat) (rs : List Cells) (G : Marks) : List (Nat × Nat) := firB m rs G rs.length
def nthF (rs : List Cells) (j : Nat) : Int := (((freshL rs 100).getD j 0 : Nat) : Int)
def genV (m : Nat) (rs : List Cells) (G : Marks) (i c : Nat) : Int := match kn rs G i c with
  | some v => v
  | none => nthF rs ((firL m rs G).idxOf (mrk G c i, c))
def genRow (m : Nat) (rs : List Cells) (G : Marks) (i : Nat) : Cells := (List.range m).map fun c => some (genV m rs G i c)
def genRows (m : Nat) (rs : List Cells) (G : Marks) : List Cells := (List.range rs.length).map (genRow m rs G)
def genD (m : Int) (rs : List Cells) (G : Marks) : PyData := if clash rs G = true then .none else rowsD (genRows m.toNat rs G)
def S_law_general : WE := fun δ P => ∃ m rs rl, δ = [.d (.int m), .d (rowsD rs), .d (rulesD rl)] ∧ TabOk m rs ∧ RulesOk m rl ∧ ∀ G, JM m.toNat rs rl G → P (.d (genD m rs G)) δ
def S_law_kind_rows : WE := fun δ P => ∃ xs n m k rl, δ = [.o xs, .d (.int m), .d (.int k), .d (rulesD rl)] ∧ Pen n xs ∧ n ≤ 980000 ∧ 1 ≤ m ∧ m ≤ 5 ∧ 0 ≤ k ∧ k ≤ 8 ∧ RulesOk m rl ∧ ∀ ys rs, Pen (n + 200) ys → TabOk m rs → ((rs.length : Int) ≤ k ∧ ∀ r ∈ rs, (some 5000 : Option Int) ∉ r) → P (.d (rowsD rs)) [.o ys, .d (.int m), .d (.int k), .d (rulesD rl)]
/-- slots: 0 law_many, 1 law_rows_here, 2 law_rules_here, 3 law_groups, 4 law_had, 5 law_row, 6 law_fresh, 7 law_given, 8 law_found, 9 law_at, 10 law_cells, 11 law_column, 12 law_own, 13 law_value, 14 law_key, 15 law_cell -/
def wb_law_general : WS := (wThen (wSetD 3 (wCall S_law_joined (wCons (wV 0) (wCons (wV 1) (wCons (wV 2) wNil)))))
      (wThen (wIfS (wTru (wCall S_law_is_clash (wCons (wV 1) (wCons (wV 3) wNil)))) (wRet (wC .none)) wNext)
      (wThen (wSet 4 (wLst wNil))
      (wThen (wFor (wSeq (wV 1)) (bN 5) (wDrop (wExtL 4 (wLc (wSeq (wV 5)) (bN 15) (wB (w2 (rIsT true) (wV 15) (wC .none))) (wV 15) [15]))))
      (wThen (wTri 6 7 8 (wLc (wRng1 (wCons (wC (.int 100)) wNil)) (bN 13) (wB (w2 (rInT true) (wV 13) (wV 4))) (wV 13) [13]) (wLst wNil))
      (wThen (wFor (wEnum (wCons (wV 1) wNil)) (bTup 2 (bCons (bN 9) (bCons (bN 5) bNil))) (wThen (wSet 10 (wCB rListD (wCons (wV 5) wNil)))
      (wThen (wFor (wRng1 (wCons (wV 0) wNil)) (bN 11) (wThen (wSet 12 (wCall S_law_values (wCons (wV 1) (wCons (wV 3) (wCons (wV 11) (wCons (w2 rIxD (w2 rIxD (wV 3) (wV 11)) (wV 9)) wNil))))))
      (wThen (wIfS (wB (w2 rEqT (wV 12) (wLst wNil))) (wThen (wSetK 14 (wCons (wV 11) (wCons (w2 rIxD (w2 rIxD (wV 3) (wV 11)) (wV 9)) wNil)))
      (wThen (wIfS (wNotInM 14 7) (wPutM 7 14 (w2 rIxD (wV 6) (wLenM 7))) wNext)
      (wSet 12 (wLst (wCons (wGetM 7 14) wNil))))) wNext)
      (wSetI 10 (wV 11) (w2 rIxD (wV 12) (wC (.int 0)))))))
      (wDrop (wApp 8 (wCB rTupleD (wCons (wV 10) wNil)))))))
      (wRet (wCB rTupleD (wCons (wV 8) wNil)))))))))
/-- slots: 0 law_pen_here, 1 law_many, 2 law_most, 3 law_rules_here, 4 law_rows_here, 5 law_whole, 6 law_share, 7 law_found, 8 law_row, 9 law_cell -/
def wb_law_kind_rows : WS := (wThen (wSet 4 (wCallO S_law_rows 0 (wCons (wV 1) (wCons (wV 2) wNil))))
      (wThen (wSet 5 (wCall S_law_general (wCons (wV 1) (wCons (wV 4) (wCons (wV 3) wNil)))))
      (wThen (wIfS (wOrT (wB (w2 (rIsT false) (wV 5) (wC .none))) (wB (w2 rEqT (wCallO S_law_draw 0 (wCons (wC (.int 3)) wNil)) (wC (.int 0))))) (wRet (wV 4)) wNext)
      (wThen (wSet 6 (w2 rAddD (wC (.int 1)) (wCallO S_law_draw 0 (wCons (wC (.int 3)) wNil))))
      (wThen (wSet 7 (wLst wNil))
      (wThen (wFor (wSeq (wV 5)) (bN 8) (wDrop (wApp 7 (wCB rTupleD (wCons (wLc (wSeq (wV 8)) (bN 9) wYes (wIf (wB (w2 rLtD (wCallO S_law_draw 0 (wCons (wC (.int 5)) wNil)) (wV 6))) (wC .none) (wV 9)) [9]) wNil)))))
      (wRet (wCB rTupleD (wCons (wV 7) wNil)))))))))
theorem val_mem {G : Marks} {c f : Nat} {v : Int} : ∀ (ps : List (Cells × Nat)) (acc : List Int), v ∈ ps.foldl (valStep G c f) acc → v ∈ acc ∨ ∃ p ∈ ps, at_ p.1 (c : Nat) = some v
  | [], acc, h => .inl h
  | p :: ps, acc, h => by
    rcases val_mem ps _ h with q | ⟨q, hq, e⟩
    · unfold valStep at q
      split at q
      · rename_i u eu
        split at q
        · rcases List.mem_append.mp q with w | w
          · exact .inl w
          · obtain rfl : v = u := by simpa using w
            exact .inr ⟨p, List.mem_cons_self, eu⟩
        · exact .inl q
      · exact .inl q
    · exact .inr ⟨q, List.mem_cons_of_mem _ hq, e⟩
theorem vals_ok {m : Int} {rs : List Cells} {G : Marks} {c f : Nat} {v : Int} (ht : TabOk m rs) (h : v ∈ vals rs G c f) : 0 ≤ v ∧ v ≤ 9999 := by
  rcases val_mem _ _ h with q | ⟨p, hp, e⟩
  · simp at q
  · have hm : p.1 ∈ rs := by
      obtain ⟨p1, p2⟩ := p
      have := List.mem_zipIdx hp
      have h2 := List.getElem_mem (l := rs) (n := p2 - 0) (by omega)
      rw [← this.2.2] at h2
      exact h2
    refine (ht.rows p.1 hm).2 (some v) ?_ v rfl
    unfold at_ at e
    rw [List.getD_eq_getElem?_getD] at e
    cases q : p.1[((c : Nat) : Int).toNat]? with
    | none => rw [q] at e; cases e
    | some w =>
      rw [q] at e
      have e : w = some v := e
      subst e
      exact List.mem_of_getElem? q
theorem one_le {α : Type} [DecidableEq α] (h : α) : ∀ (l : List α), l.Nodup → (l.filter fun x => decide (x = h)).length ≤ 1
  | [], _ => by simp
  | x :: l, nd => by
    obtain ⟨n1, n2⟩ := List.nodup_cons.mp nd
    by_cases e : x = h
    · rw [List.filter_cons_of_pos (by simpa using e)]
      have : l.filter (fun x => decide (x = h)) = [] := by
        rw [List.filter_eq_nil_iff]
        intro y hy z
        have z : y = h := by simpa using z
        exact n1 (by rw [e, ← z]; exact hy)
      rw [this]
      simp
    · rw [List.filter_cons_of_neg (by simpa using e)]
      exact one_le h l n2
theorem few_in : ∀ (hs : List Int) (l : List Nat), l.Nodup → (l.filter fun x => decide (((x : Nat) : Int) ∈ hs)).length ≤ hs.length
  | [], l, _ => by
    have : l.filter (fun x => decide (((x : Nat) : Int) ∈ ([] : List Int))) = [] := by rw [List.filter_eq_nil_iff]; intro y _; simp
    rw [this]; simp
  | h :: hs, l, nd => by
    have ih := few_in hs l nd
    have o : (l.filter fun x => decide (x = h.toNat)).length ≤ 1 := one_le h.toNat l nd
    have : ∀ l : List Nat, (l.filter fun x => decide (((x : Nat) : Int) ∈ h :: hs)).length ≤ (l.filter fun x => decide (x = h.toNat)).length + (l.filter fun x => decide (((x : Nat) : Int) ∈ hs)).length := by
      intro l
      induction l with
      | nil => simp
      | cons x l ihl =>
        by_cases q1 : ((x : Nat) : Int) = h
        · have q2 : x = h.toNat := by omega
          rw [List.filter_cons_of_pos (by simp [q1]), List.filter_cons_of_pos (p := fun x => decide (x = h.toNat)) (by simpa using q2)]
          by_cases q3 : ((x : Nat) : Int) ∈ hs
          · rw [List.filter_cons_of_pos (p := fun x => decide (((x : Nat) : Int) ∈ hs)) (by simpa using q3)]
            simp only [List.length_cons]
            omega
          · rw [List.filter_cons_of_neg (p := fun x => decide (((x : Nat) : Int) ∈ hs)) (by simpa using q3)]
            simp only [List.length_cons]
            omega
        · by_cases q3 : ((x : Nat) : Int) ∈ hs
          · rw [List.filter_cons_of_pos (by simp [q3]), List.filter_cons_of_pos (p := fun x => decide (((x : Nat) : Int) ∈ hs)) (by simpa using q3)]
            have := List.length_filter_le (fun x => decide (x = h.toNat)) l
            by_cases q2 : x = h.toNat
            · rw [List.filter_cons_of_pos (p := fun x => decide (x = h.toNat)) (by simpa using q2)]
              simp only [List.length_cons]
              omega
            · rw [List.filter_cons_of_neg (p := fun x => decide (x = h.toNat)) (by simpa using q2)]
              simp only [List.length_cons]
              omega
          · rw [List.filter_cons_of_neg (by simp [q1, q3]), List.filter_cons_of_neg (p := fun x => decide (((x : Nat) : Int) ∈ hs)) (by simpa using q3)]
            by_cases q2 : x = h.toNat
            · rw [List.filter_cons_of_pos (p := fun x => decide (x = h.toNat)) (by simpa using q2)]
              simp only [List.length_cons]
              omega
            · rw [List.filter_cons_of_neg (p := fun x => decide (x = h.toNat)) (by simpa using q2)]
              exact ihl
    have := this l
    rw [List.length_cons]
    omega
theorem fresh_len (hs : List Int) (h : hs.length ≤ 40) : 60 ≤ ((List.range 100).filter fun x => !decide (((x : Nat) : Int) ∈ hs)).length := by
  have a := few_in hs (List.range 100) List.nodup_range
  have b : ∀ l : List Nat, (l.filter fun x => decide (((x : Nat) : Int) ∈ hs)).length + (l.filter fun x => !decide (((x : Nat) : Int) ∈ hs)).length = l.length := by
    intro l
    induction l with
    | nil => rfl
    | cons x l ih =>
      by_cases q : ((x : Nat) : Int) ∈ hs
      · rw [List.filter_cons_of_pos (by simpa using q), List.filter_cons_of_neg (by simpa using q)]
        simp only [List.length_cons]
        omega
      · rw [List.filter_cons_of_neg (by simpa using q), List.filter_cons_of_pos (by simpa using q)]
        simp only [List.length_cons]
        omega
  have := b (List.range 100)
  rw [List.length_range] at this
  omega
theorem put_len (kvs : List (List Int × PyData)) (ks : List Int) (v : PyData) : (putM kvs ks v).length ≤ kvs.length + 1 := by
  unfold putM
  split
  · rw [List.length_map]; omega
  · rw [List.length_append]; simp
theorem put_get {kvs : List (List Int × PyData)} {ks : List Int} (v : PyData) (h : getM kvs ks = none) : putM kvs ks v = kvs ++ [(ks, v)] ∧ getM (putM kvs ks v) ks = some v := by
  have e : (kvs.any fun kv => decide (kv.1 = ks)) = false := by
    unfold getM at h
    rw [List.any_eq_false]
    intro x hx
    have := List.find?_eq_none.mp (Option.map_eq_none_iff.mp h) x hx
    exact this
  have q : putM kvs ks v = kvs ++ [(ks, v)] := by
    unfold putM
    rw [e]
    exact if_neg (by decide)
  refine ⟨q, ?_⟩
  rw [q]
  unfold getM at h ⊢
  rw [List.find?_append, Option.map_eq_none_iff.mp h]
  simp
theorem get_mem {kvs : List (List Int × PyData)} {ks : List Int} {z : PyData} (h : getM kvs ks = some z) : ∃ kv ∈ kvs, kv.2 = z := by
  unfold getM at h
  obtain ⟨kv, e1, e2⟩ := Option.map_eq_some_iff.mp h
  exact ⟨kv, List.mem_of_find?_eq_some e1, e2⟩
theorem some_ints (r : Cells) : (r.filter fun c => c.isSome).map cellD = (r.filterMap id).map PyData.int := by
  induction r with
  | nil => rfl
  | cons c r ih =>
    cases c with
    | none =>
      rw [List.filter_cons_of_neg (by decide), ih]
      rfl
    | some v =>
      rw [List.filter_cons_of_pos rfl, List.map_cons, ih]
      rfl
theorem kn_ok0 {m : Int} {rs : List Cells} {G : Marks} (ht : TabOk m rs) {i c : Nat} (hc : c < m.toNat) : CellOk (kn rs G i c) := fun v e => by
  obtain ⟨j, hj, _, q⟩ := kn_some e
  obtain ⟨h, e2⟩ := cel_at ht hj hc
  have hx : rs.getD j [] ∈ rs := by
    rw [List.getD_eq_getElem?_getD, List.getElem?_eq_getElem hj]
    exact List.getElem_mem _
  exact (ht.rows _ hx).2 _ (List.getElem_mem h) v (by rw [← e2]; exact q)
theorem two_filters {α : Type} (p q : α → Bool) (h : ∀ x, p x = true → q x = true → False) : ∀ l : List α, (l.filter p).length + (l.filter q).length ≤ l.length
  | [] => by simp
  | x :: l => by
    have ih := two_filters p q h l
    rw [List.filter_cons, List.filter_cons, List.length_cons]
    cases e1 : p x <;> cases e2 : q x
    · simp only [Bool.false_eq_true, if_false]; omega
    · simp only [Bool.false_eq_true, if_false, if_true, List.length_cons]; omega
    · simp only [Bool.false_eq_true, if_false, if_true, List.length_cons]; omega
    · exact (h x e1 e2).elim
theorem some_len (f : Nat → Option Int) : ∀ l : List Nat, ((l.map f).filterMap id).length = (l.filter fun c => (f c).isSome).length
  | [] => rfl
  | x :: l => by
    have ih := some_len f l
    rw [List.map_cons, List.filterMap_cons, List.filter_cons]
    cases f x with
    | none => simpa using ih
    | some v => simpa using ih
theorem rows_range (rs : List Cells) : rs = (List.range rs.length).map fun i => rs.getD i [] := by
  apply List.ext_getElem?
  intro i
  rw [List.getElem?_map]
  by_cases h : i < rs.length
  · rw [List.getElem?_range h, List.getElem?_eq_getElem h]
    simp only [Option.map_some]
    rw [List.getD_eq_getElem?_getD, List.getElem?_eq_getElem h]
    rfl
  · rw [List.getElem?_eq_none (by omega), List.getElem?_eq_none (by rw [List.length_range]; omega)]
    rfl
theorem row_range {m : Int} {rs : List Cells} (ht : TabOk m rs) {i : Nat} (hi : i < rs.length) : rs.getD i [] = (List.range m.toNat).map fun c => cel rs i c := by
  have e : rs.getD i [] ∈ rs := by
    rw [List.getD_eq_getElem?_getD, List.getElem?_eq_getElem hi]
    exact List.getElem_mem _
  have l := (ht.rows _ e).1
  apply List.ext_getElem?
  intro c
  rw [List.getElem?_map]
  by_cases h : c < m.toNat
  · obtain ⟨h2, e2⟩ := cel_at ht hi h
    rw [List.getElem?_range h, List.getElem?_eq_getElem h2]
    simp only [Option.map_some]
    rw [e2]
  · rw [List.getElem?_eq_none (by omega), List.getElem?_eq_none (by rw [List.length_range]; omega)]
    rfl
theorem flat_two {m : Nat} (F : Nat → List (Nat × Nat)) (D : Nat → List Int) : ∀ l : List Nat, (∀ r ∈ l, (F r).length + (D r).length ≤ m) → (l.flatMap F).length + (l.flatMap D).length ≤ m * l.length
  | [], _ => by simp
  | r :: l, h => by
    have ih := flat_two F D l fun x hx => h x (List.mem_cons_of_mem _ hx)
    have h1 := h r List.mem_cons_self
    rw [List.flatMap_cons, List.flatMap_cons, List.length_append, List.length_append, List.length_cons, Nat.mul_succ]
    omega
theorem had_range (rs : List Cells) : had rs = (List.range rs.length).flatMap fun r => (rs.getD r []).filterMap id := by
  unfold had
  conv => lhs; rw [rows_range rs]
  rw [List.flatMap_map]
theorem fir_len {m : Int} {rs : List Cells} {G : Marks} (ht : TabOk m rs) : (firL m.toNat rs G).length + (had rs).length ≤ m.toNat * rs.length := by
  rw [had_range]
  unfold firL firB
  have := flat_two (m := m.toNat) (fun r => firP rs G r m.toNat) (fun r => (rs.getD r []).filterMap id) (List.range rs.length) fun r hr => ?_
  · rw [List.length_range] at this
    exact this
  · have hr := List.mem_range.mp hr
    rw [row_range ht hr, some_len]
    unfold firP
    rw [List.length_map]
    have := two_filters (fun c => isF rs G r c) (fun c => (cel rs r c).isSome) (fun c h1 h2 => by
      unfold isF at h1
      simp only [Bool.and_eq_true, decide_eq_true_eq, Option.isNone_iff_eq_none] at h1
      rw [kn_none h1.2 r hr rfl] at h2
      cases h2) (List.range m.toNat)
    rw [List.length_range] at this
    exact this
theorem fresh_cnt (rs : List Cells) (k : Nat) : k ≤ (freshL rs k).length + (had rs).length := by
  have h1 := few_in (had rs) (List.range k) List.nodup_range
  have h2 : ((List.range k).filter fun x => decide (((x : Nat) : Int) ∈ had rs)).length + ((List.range k).filter fun x : Nat => !decide (((x : Nat) : Int) ∈ had rs)).length = k := by
    have : ∀ l : List Nat, (l.filter fun x => decide (((x : Nat) : Int) ∈ had rs)).length + (l.filter fun x : Nat => !decide (((x : Nat) : Int) ∈ had rs)).length = l.length := by
      intro l
      induction l with
      | nil => rfl
      | cons x l ih =>
        rw [List.filter_cons, List.filter_cons, List.length_cons]
        cases decide (((x : Nat) : Int) ∈ had rs) with
        | true => simp only [Bool.not_true, Bool.false_eq_true, if_false, if_true, List.length_cons]; omega
        | false => simp only [Bool.not_false, Bool.false_eq_true, if_false, if_true, List.length_cons]; omega
    rw [this, List.length_range]
  unfold freshL
  omega
theorem fresh_pre {rs : List Cells} {k j : Nat} (hk : k ≤ 100) (hj : j < (freshL rs k).length) : (freshL rs k).getD j 0 = (freshL rs 100).getD j 0 ∧ j < (freshL rs 100).length := by
  have e : freshL rs 100 = freshL rs k ++ ((List.range (100 - k)).map fun x => k + x).filter fun x : Nat => !decide (((x : Nat) : Int) ∈ had rs) := by
    unfold freshL
    rw [← List.filter_append, ← List.range_add, Nat.add_sub_cancel' hk]
  rw [e]
  refine ⟨?_, by rw [List.length_append]; omega⟩
  rw [List.getD_eq_getElem?_getD, List.getD_eq_getElem?_getD, List.getElem?_append_left hj]
theorem fresh_ok {rs : List Cells} {j : Nat} : 0 ≤ nthF rs j ∧ nthF rs j ≤ 99 := by
  unfold nthF
  rw [List.getD_eq_getElem?_getD]
  cases e : (freshL rs 100)[j]? with
  | none => simp
  | some x =>
    have := List.mem_of_getElem? e
    unfold freshL at this
    have := List.mem_range.mp (List.mem_filter.mp this).1
    simp only [Option.getD_some]
    omega
theorem gen_cell {m : Int} {rs : List Cells} {G : Marks} (ht : TabOk m rs) {i c : Nat} (hc : c < m.toNat) : 0 ≤ genV m.toNat rs G i c ∧ genV m.toNat rs G i c ≤ 9999 := by
  unfold genV
  cases e : kn rs G i c with
  | none =>
    have := fresh_ok (rs := rs) (j := (firL m.toNat rs G).idxOf (mrk G c i, c))
    exact ⟨this.1, Int.le_trans this.2 (by decide)⟩
  | some v => exact kn_ok0 ht hc v e
theorem gen_ok {m : Int} {rs : List Cells} {G : Marks} (ht : TabOk m rs) : TabOk m (genRows m.toNat rs G) ∧ Full (genRows m.toNat rs G) ∧ (genRows m.toNat rs G).length = rs.length := by
  have m1 := ht.lo
  have l : (genRows m.toNat rs G).length = rs.length := by unfold genRows; simp
  refine ⟨⟨ht.lo, ht.hi, by rw [l]; exact ht.few, fun r hr => ?_⟩, fun r hr c hc => ?_, l⟩
  · unfold genRows at hr
    obtain ⟨i, _, rfl⟩ := List.mem_map.mp hr
    unfold genRow
    refine ⟨by rw [List.length_map, List.length_range]; omega, fun c hc => ?_⟩
    obtain ⟨c', hc', rfl⟩ := List.mem_map.mp hc
    intro v hv
    cases hv
    exact gen_cell ht (List.mem_range.mp hc')
  · unfold genRows at hr
    obtain ⟨i, _, rfl⟩ := List.mem_map.mp hr
    unfold genRow at hc
    obtain ⟨c, _, rfl⟩ := List.mem_map.mp hc
    exact fun z => nomatch z
/-! the places that get new values, in their order -/
theorem part_succ (rs : List Cells) (G : Marks) (k j : Nat) : firP rs G k (j + 1) = firP rs G k j ++ (if isF rs G k j = true then [(k, j)] else []) := by
  unfold firP
  rw [List.range_succ, List.filter_append, List.map_append]
  congr 1
  rw [List.filter_cons]
  cases isF rs G k j with
  | true => rfl
  | false => rfl
theorem firB_succ (m : Nat) (rs : List Cells) (G : Marks) (k : Nat) : firB m rs G (k + 1) = firB m rs G k ++ firP rs G k m := by
  unfold firB
  rw [List.range_succ, List.flatMap_append]
  simp
theorem firB_pre (m : Nat) (rs : List Cells) (G : Marks) : ∀ (d k : Nat), ∃ rest, firB m rs G (k + d) = firB m rs G k ++ rest
  | 0, k => ⟨[], by simp⟩
  | d + 1, k => by
    obtain ⟨rest, e⟩ := firB_pre m rs G d k
    exact ⟨rest ++ firP rs G (k + d) m, by rw [← Nat.add_assoc, firB_succ, e, List.append_assoc]⟩
theorem part_pre (rs : List Cells) (G : Marks) (k : Nat) : ∀ (d j : Nat), ∃ rest, firP rs G k (j + d) = firP rs G k j ++ rest
  | 0, j => ⟨[], by simp⟩
  | d + 1, j => by
    obtain ⟨rest, e⟩ := part_pre rs G k d j
    exact ⟨rest ++ (if isF rs G k (j + d) = true then [(k, j + d)] else []), by rw [← Nat.add_assoc, part_succ, e, List.append_assoc]⟩
theorem fir_pre {m : Nat} {rs : List Cells} {G : Marks} {k j : Nat} (hk : k < rs.length) (hj : j ≤ m) : ∃ rest, firL m rs G = (firB m rs G k ++ firP rs G k j) ++ rest := by
  obtain ⟨r1, e1⟩ := firB_pre m rs G (rs.length - (k + 1)) (k + 1)
  obtain ⟨r2, e2⟩ := part_pre rs G k (m - j) j
  unfold firL
  rw [show k + 1 + (rs.length - (k + 1)) = rs.length by omega] at e1
  rw [show j + (m - j) = m by omega] at e2
  exact ⟨r2 ++ r1, by rw [e1, firB_succ, e2]; simp only [List.append_assoc]⟩
theorem mem_part {rs : List Cells} {G : Marks} {k j : Nat} {p : Nat × Nat} : p ∈ firP rs G k j ↔ p.1 = k ∧ p.2 < j ∧ isF rs G k p.2 = true := by
  unfold firP
  rw [List.mem_map]
  constructor
  · rintro ⟨c, hc, rfl⟩
    obtain ⟨h1, h2⟩ := List.mem_filter.mp hc
    exact ⟨rfl, List.mem_range.mp h1, h2⟩
  · rintro ⟨rfl, h1, h2⟩
    exact ⟨p.2, List.mem_filter.mpr ⟨List.mem_range.mpr h1, h2⟩, rfl⟩
theorem mem_firB {m : Nat} {rs : List Cells} {G : Marks} {k : Nat} {p : Nat × Nat} : p ∈ firB m rs G k ↔ p.1 < k ∧ p.2 < m ∧ isF rs G p.1 p.2 = true := by
  unfold firB
  rw [List.mem_flatMap]
  constructor
  · rintro ⟨r, hr, h⟩
    obtain ⟨h1, h2, h3⟩ := mem_part.mp h
    exact ⟨by rw [h1]; exact List.mem_range.mp hr, h2, by rw [h1]; exact h3⟩
  · rintro ⟨h1, h2, h3⟩
    exact ⟨p.1, List.mem_range.mpr h1, mem_part.mpr ⟨rfl, h2, h3⟩⟩
theorem fir_nodup (m : Nat) (rs : List Cells) (G : Marks) : ∀ k, (firB m rs G k).Nodup
  | 0 => by unfold firB; simp
  | k + 1 => by
    rw [firB_succ, List.nodup_append]
    refine ⟨fir_nodup m rs G k, ?_, fun a ha b hb => ?_⟩
    · unfold firP
      refine List.Pairwise.map _ (fun a b (h : a < b) => ?_) (List.Pairwise.filter _ List.pairwise_lt_range)
      intro z
      have : a = b := congrArg Prod.snd z
      omega
    · have h1 := (mem_firB.mp ha).1
      have h2 := (mem_part.mp hb).1
      rintro rfl
      omega
def kvF (rs : List Cells) : Nat → List (Nat × Nat) → List (List Int × PyData)
  | _, [] => []
  | k, p :: l => ([((p.2 : Nat) : Int), ((p.1 : Nat) : Int)], .int (nthF rs k)) :: kvF rs (k + 1) l
theorem kvF_len (rs : List Cells) : ∀ (l : List (Nat × Nat)) (k : Nat), (kvF rs k l).length = l.length
  | [], _ => rfl
  | p :: l, k => by simp [kvF, kvF_len rs l]
theorem kvF_snoc (rs : List Cells) (p : Nat × Nat) : ∀ (l : List (Nat × Nat)) (k : Nat), kvF rs k (l ++ [p]) = kvF rs k l ++ [([((p.2 : Nat) : Int), ((p.1 : Nat) : Int)], .int (nthF rs (k + l.length)))]
  | [], k => by simp [kvF]
  | q :: l, k => by
    have := kvF_snoc rs p l (k + 1)
    simp only [List.cons_append, kvF, List.length_cons, this]
    rw [show k + 1 + l.length = k + (l.length + 1) by omega]
theorem kvF_get (rs : List Cells) (r c : Nat) : ∀ (l : List (Nat × Nat)) (k : Nat), getM (kvF rs k l) [((c : Nat) : Int), ((r : Nat) : Int)] = if (r, c) ∈ l then some (.int (nthF rs (k + l.idxOf (r, c)))) else none
  | [], k => by simp [kvF, getM]
  | p :: l, k => by
    have ih := kvF_get rs r c l (k + 1)
    unfold getM at ih ⊢
    simp only [kvF, List.find?_cons]
    by_cases e : p = (r, c)
    · subst e
      simp
    · have n1 : ¬ ([((p.2 : Nat) : Int), ((p.1 : Nat) : Int)] = [((c : Nat) : Int), ((r : Nat) : Int)]) := fun z => by
        simp only [List.cons.injEq, and_true] at z
        apply e
        obtain ⟨a, b⟩ := p
        simp only at z
        rw [Prod.mk.injEq]
        omega
      simp only [n1, decide_false]
      rw [ih]
      have n2 : ¬ ((r, c) = p) := fun z => e z.symm
      by_cases h : (r, c) ∈ l
      · rw [if_pos h, if_pos (List.mem_cons_of_mem _ h), List.idxOf_cons]
        have : (p == (r, c)) = false := by simpa using e
        rw [this]
        simp only [cond_false]
        congr 3
        omega
      · rw [if_neg h, if_neg (by simp [n2, h])]
theorem idx_pre {l1 l2 : List (Nat × Nat)} {p : Nat × Nat} (h : p ∈ l1) : (l1 ++ l2).idxOf p = l1.idxOf p := by
  rw [List.idxOf_append, if_pos h]
theorem idx_here {l1 l2 : List (Nat × Nat)} {p : Nat × Nat} (h : p ∉ l1) : (l1 ++ p :: l2).idxOf p = l1.length := by
  rw [List.idxOf_append, if_neg h, List.idxOf_cons]
  simp
theorem part_len {rs : List Cells} {G : Marks} {k j : Nat} : (firP rs G k j).length ≤ j := by
  unfold firP
  rw [List.length_map]
  have := List.length_filter_le (fun c => isF rs G k c) (List.range j)
  rw [List.length_range] at this
  exact this
theorem firB_len {m : Nat} {rs : List Cells} {G : Marks} : ∀ k, (firB m rs G k).length ≤ m * k
  | 0 => by unfold firB; simp
  | k + 1 => by
    have := firB_len (m := m) (rs := rs) (G := G) k
    have := part_len (rs := rs) (G := G) (k := k) (j := m)
    rw [firB_succ, List.length_append, Nat.mul_succ]
    omega
theorem hS_law_general : ∀ δ P, S_law_general δ P → ArgOk 3 δ ∧ wb_law_general (endsOf δ P) (δ ++ List.replicate (16 - 3) Sl.un) := by
  rintro δ P ⟨m, rs, rl, rfl, ht, hr, h⟩
  refine ⟨argD [.int m, rowsD rs, rulesD rl], ?_⟩
  have m1 := ht.lo
  have m5 := ht.hi
  have n8 := ht.few
  unfold wb_law_general
  walk_at "ds"
  refine ⟨rfl, m, rs, rl, rfl, ht, hr, fun G hG => ?_⟩
  have h := h G hG
  unfold genD at h
  walk_at "ds"
  refine ⟨rfl, m, rs, G, rfl, ht, hG.shp, ?_⟩
  walk_at "ds"
  cases nc : clash rs G with
  | true =>
    rw [if_pos nc] at h
    exact ifT rfl h
  | false =>
    rw [if_neg (by rw [nc]; decide)] at h
    refine ifF rfl ?_
    refine ⟨⟨rfl, by simp⟩, ?_⟩
    unfold rowsD
    walk_at "ds"
    refine loopT rowD rs (fun i δ => ∃ y5 hs, δ = [.d (.int m), .d (rowsD rs), .d (rulesD rl), .d (.list (marksD G)), .o (hs.map PyData.int), y5, .un, .un, .un, .un, .un, .un, .un, .un, .un, .un] ∧ hs.length ≤ 5 * i ∧ hs = (rs.take i).flatMap fun r => r.filterMap id) ⟨_, [], rfl, by simp, by simp⟩ ?_ ?_
    · rintro i r δ C hx ⟨y5, hs, rfl, hl, hh⟩ hC
      have ro := ht.rows r (List.mem_of_getElem? hx)
      have l1 := ro.1
      have hi := (List.getElem?_eq_some_iff.mp hx).1
      unfold rowD
      walk_at "ds"
      refine ⟨⟨by rw [List.length_map]; omega, rfl⟩, ?_⟩
      refine go_filT cellD (fun c => c.isSome) cellD r [] (fun c hc C C' h1 h2 => ?_) ?_
      · walk_at "ds"
        cases c with
        | none =>
          refine isnot_ok (d := cellD none) (k := true) rfl ?_
          walk_at "ds"
          exact ifF rfl (h2 rfl)
        | some v =>
          refine isnot_ok (d := cellD (some v)) (k := false) rfl ?_
          walk_at "ds"
          exact ifT rfl ⟨rfl, h1 rfl⟩
      rw [List.nil_append, some_ints]
      have fl := List.length_filterMap_le id r
      walk_at "ds"
      refine ⟨by rw [List.length_map, List.length_map]; omega, hC _ ⟨.d (rowD r), hs ++ r.filterMap id, ?_, by rw [List.length_append]; omega, ?_⟩⟩
      · rw [List.map_append]
        rfl
      · rw [List.take_add_one, hx, List.flatMap_append, hh]
        simp
    · rintro δ ⟨y5, hs, rfl, hl, hh⟩
      rw [List.take_length] at hh
      have hh : hs = had rs := hh
      subst hh
      walk_at "ds"
      refine ⟨⟨by decide, by decide⟩, ⟨by rw [rangeD_len]; decide, rfl⟩, ?_⟩
      rw [rangeD_eq]
      refine go_filT _ (fun x : Nat => !decide (((x : Nat) : Int) ∈ had rs)) (fun x : Nat => PyData.int ((0 : Int) + (x : Nat))) (List.range (100 : Int).toNat) [] (fun x hx C C' h1 h2 => ?_) ?_
      · walk_at "ds"
        rw [i0]
        refine notin_ok ?_
        walk_at "ds"
        rw [i0] at h1
        cases e : (!decide (((x : Nat) : Int) ∈ had rs)) with
        | true => exact ifT rfl ⟨rfl, h1 e⟩
        | false => exact ifF rfl (h2 e)
      rw [List.nil_append]
      have flen := fresh_len (had rs) (by omega)
      have efr : (List.range 100).filter (fun x : Nat => !decide (((x : Nat) : Int) ∈ had rs)) = freshL rs 100 := rfl
      rw [efr] at flen
      have fok : ∀ i, i < (freshL rs 100).length → ((freshL rs 100).map fun x : Nat => PyData.int ((0 : Int) + (x : Nat)))[i]? = some (.int (nthF rs i)) := fun i hi => by
        rw [List.getElem?_map, List.getElem?_eq_getElem hi]
        show some (PyData.int _) = _
        rw [i0]
        unfold nthF
        rw [List.getD_eq_getElem?_getD, List.getElem?_eq_getElem hi]
        rfl
      rw [show (100 : Int).toNat = 100 from rfl, efr]
      refine ⟨rfl, ⟨rfl, by simp⟩, rfl, ?_⟩
      unfold rowsD
      walk_at "ds"
      rw [enumT]
      generalize efd : ((freshL rs 100).map fun x : Nat => PyData.int ((0 : Int) + (x : Nat))) = frD at fok
      refine loopT _ rs.zipIdx (fun i δ => ∃ ws kvs y5 y9 y10 y11 y12 y14, δ = [.d (.int m), .d (rowsD rs), .d (rulesD rl), .d (.list (marksD G)), .o ((had rs).map PyData.int), y5, .o frD, .m kvs, .o (ws.map rowD), y9, y10, y11, y12, .un, y14, .un] ∧ ws = (List.range i).map (genRow m.toNat rs G) ∧ kvs = kvF rs 0 (firB m.toNat rs G i)) ⟨[], [], _, _, _, _, _, _, rfl, rfl, rfl⟩ ?_ ?_
      · rintro i ⟨r, k⟩ δ C hx ⟨ws, kvs, y5, y9, y10, y11, y12, y14, rfl, g1, g2⟩ hC
        obtain ⟨hr', hk, hi⟩ := zip_at hx
        have hk : k = i := hk
        subst hk
        have ro := ht.rows r (List.mem_of_getElem? hr')
        have l1 := ro.1
        unfold rowD
        walk_at "ds"
        refine ⟨rfl, ?_⟩
        refine ⟨⟨by omega, by omega⟩, ?_⟩
        refine loopR (lo := 0) m.toNat (fun j δ => ∃ cs kvs y11 y12 y14, δ = [.d (.int m), .d (rowsD rs), .d (rulesD rl), .d (.list (marksD G)), .o ((had rs).map PyData.int), .d (rowD r), .o frD, .m kvs, .o (ws.map rowD), .d (.int (k : Nat)), .o (cs.map cellD), y11, y12, .un, y14, .un] ∧ cs.length = r.length ∧ (∀ q, q < j → cs[q]? = some (some (genV m.toNat rs G k q))) ∧ kvs = kvF rs 0 (firB m.toNat rs G k ++ firP rs G k j)) ⟨r, kvs, _, _, _, rfl, rfl, fun q z => by omega, by rw [g2]; simp [firP]⟩ ?_ ?_
        · rintro j δ C2 hj ⟨cs, kvs, y11, y12, y14, rfl, c1, c2, c3⟩ hC2
          have kl : kvs.length ≤ 5 * k + j := by
            rw [c3, kvF_len, List.length_append]
            have := firB_len (m := m.toNat) (rs := rs) (G := G) k
            have := part_len (rs := rs) (G := G) (k := k) (j := j)
            have : m.toNat * k ≤ 5 * k := Nat.mul_le_mul_right _ (by omega)
            omega
          rw [i0]
          walk_at "ds"
          refine colix hG.shp hj ?_
          walk_at "ds"
          refine mrkix hG.shp hj hi ?_
          walk_at "ds"
          refine ⟨rfl, m, rs, G, j, mrk G j k, rfl, ht, hG.shp, hj, ?_⟩
          walk_at "ds"
          rw [kn_vals hG.shp nc hi hj]
          generalize evl : oneL (kn rs G k j) = vl
          refine ⟨⟨rfl, by simp⟩, rfl, ?_⟩
          refine eq_ok (k := vl.isEmpty) ?_ (by rw [eqv_lnil, List.isEmpty_map]) ?_
          · show (SeqAt.shaped (.list (vl.map PyData.int)) && SeqAt.shaped (.list [])) = true
            rw [shaped_flat fun x hx => by obtain ⟨v, _, rfl⟩ := List.mem_map.mp hx; exact ⟨v, rfl⟩]
            rfl
          walk_at "ds"
          have ei : ixN (cs.map cellD).length ((j : Nat) : Int) = some j := by
            unfold ixN
            rw [if_pos (by omega), if_pos (by rw [List.length_map]; omega)]
            rfl
          have cont : ∀ (kvs' : List (List Int × PyData)) (y12 y14 : Sl) (v : Int), kvs' = kvF rs 0 (firB m.toNat rs G k ++ firP rs G k (j + 1)) → v = genV m.toNat rs G k j → C2 [.d (.int m), .d (rowsD rs), .d (rulesD rl), .d (.list (marksD G)), .o ((had rs).map PyData.int), .d (rowD r), .o frD, .m kvs', .o (ws.map rowD), .d (.int (k : Nat)), .o ((cs.map cellD).set j (.int v)), .d (.int (j : Nat)), y12, .un, y14, .un] := fun kvs' y12 y14 v q1 q2 => by
            refine hC2 _ ⟨cs.set j (some v), kvs', .d (.int (j : Nat)), y12, y14, ?_, by rw [List.length_set]; exact c1, fun q hq => ?_, q1⟩
            · rw [List.map_set]
              rfl
            · by_cases z : j = q
              · subst z
                rw [List.getElem?_set_self (by omega), q2]
              · rw [List.getElem?_set_ne z]
                exact c2 q (by omega)
          cases ekn : kn rs G k j with
          | some v =>
            rw [ekn] at evl
            subst evl
            have nf : isF rs G k j = false := by unfold isF; rw [ekn]; simp
            refine ifF rfl ?_
            refine ⟨rfl, lstix (z := .int v) (atI_of (by decide) rfl) ?_⟩
            walk_at "ds"
            refine ⟨rfl, ?_⟩
            rw [ei]
            dsimp only
            refine cont kvs _ _ v ?_ (by unfold genV; rw [ekn])
            rw [c3, part_succ, nf]
            simp
          | none =>
            rw [ekn] at evl
            subst evl
            have hle := hG.le j k hj hi
            have gv : genV m.toNat rs G k j = nthF rs ((firL m.toNat rs G).idxOf (mrk G j k, j)) := by unfold genV; rw [ekn]
            refine ifT rfl ?_
            refine colix hG.shp hj ?_
            walk_at "ds"
            refine mrkix hG.shp hj hi ?_
            walk_at "ds"
            have eg := kvF_get rs (mrk G j k) j (firB m.toNat rs G k ++ firP rs G k j) 0
            rw [← c3] at eg
            generalize eks : [((j : Nat) : Int), ((mrk G j k : Nat) : Int)] = ks at eg
            refine ⟨by rw [← eks]; simp, ?_⟩
            by_cases q : mrk G j k = k
            · have isf : isF rs G k j = true := by unfold isF; rw [ekn, decide_eq_true q]; rfl
              have nin : (k, j) ∉ firB m.toNat rs G k ++ firP rs G k j := fun z => by
                rcases List.mem_append.mp z with z | z
                · have := (mem_firB.mp z).1; omega
                · have := (mem_part.mp z).2.1; omega
              rw [q, if_neg nin] at eg
              rw [eg]
              refine ifT rfl ?_
              have x2 := fok kvs.length (by omega)
              refine ⟨rfl, lstix (atI_of (Int.natCast_nonneg _) (by rw [Int.toNat_natCast]; exact x2)) ?_⟩
              walk_at "ds"
              refine ⟨by omega, ?_⟩
              rw [(put_get _ eg).2]
              walk_at "ds"
              refine ⟨⟨rfl, by simp⟩, ?_⟩
              refine ⟨rfl, lstix rfl ?_⟩
              walk_at "ds"
              refine ⟨rfl, ?_⟩
              rw [ei]
              dsimp only
              refine cont _ _ _ (nthF rs kvs.length) ?_ ?_
              · rw [(put_get _ eg).1, part_succ, isf, if_pos rfl, ← List.append_assoc, kvF_snoc, ← c3, ← eks, q]
                rw [c3, kvF_len, Nat.zero_add]
              · obtain ⟨rest, e⟩ := fir_pre (m := m.toNat) (rs := rs) (G := G) (k := k) (j := j + 1) hi (by omega)
                rw [part_succ, isf, if_pos rfl, ← List.append_assoc, List.append_assoc (bs := [(k, j)])] at e
                rw [gv, q, e, show [(k, j)] ++ rest = (k, j) :: rest from rfl, idx_here nin, c3, kvF_len]
            · have lt : mrk G j k < k := by omega
              have same : kn rs G (mrk G j k) j = none := by
                rw [← ekn]
                unfold kn
                rw [hle.2]
              have inn : (mrk G j k, j) ∈ firB m.toNat rs G k ++ firP rs G k j := List.mem_append_left _ (mem_firB.mpr ⟨lt, hj, by unfold isF; rw [same, decide_eq_true hle.2]; rfl⟩)
              have nf : isF rs G k j = false := by unfold isF; rw [decide_eq_false q]; rfl
              rw [if_pos inn, Nat.zero_add] at eg
              rw [eg]
              refine ifF rfl ?_
              walk_at "ds"
              refine ⟨⟨rfl, by simp⟩, ?_⟩
              refine ⟨rfl, lstix rfl ?_⟩
              walk_at "ds"
              refine ⟨rfl, ?_⟩
              rw [ei]
              dsimp only
              refine cont kvs _ _ _ ?_ ?_
              · rw [c3, part_succ, nf]
                simp
              · obtain ⟨rest, e⟩ := fir_pre (m := m.toNat) (rs := rs) (G := G) (k := k) (j := j) hi (by omega)
                rw [gv, e, idx_pre inn]
        · rintro δ ⟨cs, kvs, y11, y12, y14, rfl, c1, c2, c3⟩
          have ecs : cs = genRow m.toNat rs G k := by
            unfold genRow
            apply List.ext_getElem?
            intro q
            rw [List.getElem?_map]
            by_cases hq : q < m.toNat
            · rw [c2 q hq, List.getElem?_range hq]
              rfl
            · rw [List.getElem?_eq_none (by omega), List.getElem?_eq_none (by rw [List.length_range]; omega)]
              rfl
          subst ecs
          walk_at "ds"
          refine ⟨rfl, rfl, by rw [List.length_map, g1, List.length_map, List.length_range]; omega, hC _ ⟨ws ++ [genRow m.toNat rs G k], kvs, .d (rowD r), .d (.int (k : Nat)), .o ((genRow m.toNat rs G k).map cellD), y11, y12, y14, ?_, ?_, ?_⟩⟩
          · rw [List.map_append]
            rfl
          · rw [g1, List.range_succ, List.map_append]
            rfl
          · rw [c3, firB_succ]
      · rintro δ ⟨ws, kvs, y5, y9, y10, y11, y12, y14, rfl, g1, g2⟩
        rw [List.length_zipIdx] at g1
        walk_at "ds"
        refine ⟨rfl, ?_⟩
        rw [g1]
        exact h
theorem nthF_lt (rs : List Cells) (j : Nat) : nthF rs j < 100 := by
  unfold nthF
  rw [List.getD_eq_getElem?_getD]
  cases q : (freshL rs 100)[j]? with
  | none => simp
  | some x =>
    have h := List.mem_of_getElem? q
    unfold freshL at h
    have := List.mem_range.mp (List.mem_filter.mp h).1
    simp only [Option.getD_some]
    omega
theorem getD_memS {r : Cells} {k : Nat} {v : Int} (h : r.getD k none = some v) : some v ∈ r := by
  rw [List.getD_eq_getElem?_getD] at h
  cases q : r[k]? with
  | none => rw [q] at h; cases h
  | some x =>
    rw [q] at h
    have h : x = some v := h
    rw [← h]
    exact List.mem_of_getElem? q
theorem gen_n5 {m : Int} {rs : List Cells} {G : Marks} (h : ∀ r ∈ rs, (some 5000 : Option Int) ∉ r) : ∀ r ∈ genRows m.toNat rs G, (some 5000 : Option Int) ∉ r := by
  intro r hr z
  unfold genRows at hr
  obtain ⟨i, hi, rfl⟩ := List.mem_map.mp hr
  unfold genRow at z
  obtain ⟨c, hc, e⟩ := List.mem_map.mp z
  have e := Option.some.inj e
  unfold genV at e
  split at e
  · rename_i v ek
    subst e
    obtain ⟨j, hj, _, e2⟩ := kn_some ek
    have hx : rs.getD j [] ∈ rs := by
      rw [List.getD_eq_getElem?_getD, List.getElem?_eq_getElem hj]
      exact List.getElem_mem _
    exact h _ hx (getD_memS e2)
  · have := nthF_lt rs ((firL m.toNat rs G).idxOf (mrk G c i, c))
    omega
theorem hS_law_kind_rows : ∀ δ P, S_law_kind_rows δ P → ArgOk 4 δ ∧ wb_law_kind_rows (endsOf δ P) (δ ++ List.replicate (10 - 4) Sl.un) := by
  rintro δ P ⟨xs, n, m, k, rl, rfl, hp, hn, hm, hm2, hk, hk2, hr, h⟩
  refine ⟨argO _ [.int m, .int k, rulesD rl], ?_⟩
  unfold wb_law_kind_rows
  walk_at "ds"
  refine ⟨rfl, xs, n, m, k, rfl, hp, by omega, hm, hm2, hk, hk2, fun ys rs hy ht hlen => ?_⟩
  walk_at "ds"
  refine ⟨rfl, m, rs, rl, rfl, ht, hr, fun G hG => ?_⟩
  unfold genD
  have hw5 := gen_n5 (m := m) (G := G) hlen.2
  have hw1 := (gen_ok (G := G) ht).1
  have hwl := (gen_ok (G := G) ht).2.2
  generalize genRows m.toNat rs G = ws at hw1 hwl hw5
  cases clash rs G with
  | true =>
    rw [if_pos rfl]
    walk_at "ds"
    refine is_ok (k := true) rfl ?_
    walk_at "ds"
    refine ifT rfl (ifT rfl (h ys rs (hy.mono (by omega)) ht hlen))
  | false =>
    rw [if_neg (by decide)]
    walk_at "ds"
    unfold rowsD
    refine is_ok (k := false) rfl ?_
    walk_at "ds"
    refine ifF rfl ?_
    refine ⟨rfl, ys, n + 100, 3, rfl, hy, by omega, by decide, by decide, fun zs d hz d0 d3 => ?_⟩
    walk_at "ds"
    refine eq_ok (k := decide (d = 0)) rfl (eqv_int _ _) ?_
    walk_at "ds"
    cases decide (d = 0) with
    | true => exact ifT rfl (h zs rs (hz.mono (by omega)) ht hlen)
    | false =>
      refine ifF rfl ?_
      refine ⟨rfl, zs, n + 101, 3, rfl, hz, by omega, by decide, by decide, fun us e hu e0 e3 => ?_⟩
      walk_at "ds"
      refine ⟨⟨rfl, by simp⟩, ?_⟩
      have w8 := hw1.few
      refine loopT rowD ws (fun i δ => ∃ vs qs y8, δ = [.o vs, .d (.int m), .d (.int k), .d (rulesD rl), .d (rowsD rs), .d (rowsD ws), .d (.int (1 + e)), .o (qs.map rowD), y8, .un] ∧ qs.length = i ∧ (∀ q ∈ qs, RowOk m q ∧ (some 5000 : Option Int) ∉ q) ∧ Pen (n + 102 + 5 * i) vs) ⟨us, [], _, rfl, rfl, by simp, hu⟩ ?_ ?_
      · rintro i r δ C hx ⟨vs, qs, y8, rfl, g1, g2, g3⟩ hC
        have ro := hw1.rows r (List.mem_of_getElem? hx)
        have l1 := ro.1
        have hi := (List.getElem?_eq_some_iff.mp hx).1
        unfold rowD
        walk_at "ds"
        refine ⟨⟨by rw [List.length_map]; omega, rfl⟩, ?_⟩
        refine go_invT cellD (fun j acc δ => ∃ (us : List PyData) (cs : Cells), δ = [.o us, .d (.int m), .d (.int k), .d (rulesD rl), .d (rowsD rs), .d (rowsD ws), .d (.int (1 + e)), .o (qs.map rowD), .d (rowD r), .un] ∧ acc = cs.map cellD ∧ cs.length = j ∧ (∀ c ∈ cs, CellOk c ∧ c ≠ some 5000) ∧ Pen (n + 102 + 5 * i + j) us) r 0 [] _ ?_ ⟨vs, [], rfl, rfl, rfl, by simp, g3⟩ ?_
        · rintro j c acc δ C' hj ⟨us, cs, rfl, rfl, c1, c2, c3⟩ hC'
          have hj2 := (List.getElem?_eq_some_iff.mp hj).1
          have snoc : ∀ c : Option Int, CellOk c ∧ c ≠ some 5000 → (∀ c' ∈ cs ++ [c], CellOk c' ∧ c' ≠ some 5000) := fun c hc c' hc' => by
            rcases List.mem_append.mp hc' with q | q
            · exact c2 c' q
            · obtain rfl : c' = c := by simpa using q
              exact hc
          walk_at "ds"
          refine ifT rfl ⟨rfl, us, n + 102 + 5 * i + (0 + j), 5, rfl, c3, by omega, by decide, by decide, fun ws2 q hw2 q0 q5 => ?_⟩
          walk_at "ds"
          refine ite2 (fun _ => ?_) (fun _ => ?_)
          · refine ⟨rfl, hC' _ _ ⟨ws2, cs ++ [none], rfl, by rw [List.map_append]; rfl, by rw [List.length_append, c1]; rfl, snoc _ ⟨fun v hv => (by cases hv), by simp⟩, hw2.mono (by omega)⟩⟩
          · refine ⟨rfl, hC' _ _ ⟨ws2, cs ++ [c], rfl, by rw [List.map_append]; rfl, by rw [List.length_append, c1]; rfl, snoc _ ⟨ro.2 c (List.mem_of_getElem? hj), fun z => hw5 r (List.mem_of_getElem? hx) (z ▸ List.mem_of_getElem? hj)⟩, hw2.mono (by omega)⟩⟩
        · rintro acc δ ⟨us, cs, rfl, rfl, c1, c2, c3⟩
          walk_at "ds"
          refine ⟨rfl, by rw [List.length_map]; omega, hC _ ⟨us, qs ++ [cs], .d (rowD r), ?_, by rw [List.length_append, g1]; rfl, ?_, c3.mono (by omega)⟩⟩
          · rw [List.map_append]
            rfl
          · intro q hq
            rcases List.mem_append.mp hq with w | w
            · exact g2 q w
            · obtain rfl : q = cs := by simpa using w
              exact ⟨⟨by omega, fun c hc => (c2 c hc).1⟩, fun z => (c2 _ z).2 rfl⟩
      · rintro δ ⟨vs, qs, y8, rfl, g1, g2, g3⟩
        walk_at "ds"
        exact ⟨rfl, h vs qs (g3.mono (by omega)) ⟨hm, hm2, by omega, fun r hr => (g2 r hr).1⟩ ⟨by omega, fun r hr => (g2 r hr).2⟩⟩
end B

namespace B
open PySem PySem.Spec PyProof.Rows L2 Dw
local macro_rules | `(tactic| walk_at "ds") => `(tactic| try dsimp only [wRet, wRetN, sPu, wThenX, wIfX, wRetX, wDropX, wSetX, wCallX, wCallP, uPu, wPu, uConsX, wRaise, wDc, wDcT, wDZ, wD1, wGet1, wGet2, wGetT, wThen, wIfS, wIf, wNotT, wTru, wB, w2, wV, wC, wCons, wNil, wCall, wCallO, wCallO1, endO, wCB, wLc, wSeq, wYes, wNext, wNever, wDrop, wSet, wAsg, wPair, wFor, wTup, wLst, wAndV, wOrV, wNotV, wNeg, wAndT, wOrT, wIsi, wChain, wSlice, wPart, wNo, wZip, wEnum, wRng1, wRng2, wLc2, wApp, wApp1, wPop, wPop1, wExt, wExt1, wSetI, wSetI1, wSetD, wSortSet, wIdx, wIdx1, wExtL, wExtL1, wLenM, wNotInM, wGetM, wPutM, wPutM1, wSetK, wTri, wForget, rCatTD, rCatLD, intsR, Option.map_some, bN, bTup, bCons, bNil, as_d, as_l, as_b, noB_d, noB_l, still_d, still_l, still_b, put_d, put_l, tru_bool, tru_tup, tru_lst, isT_tup, isI_int, isB_int, stillA_nil, stillA_cons, map0, map1, map2, map3, len_l, len_t, tup_l, tup_t, lst_l, lst_t, max_i, min_i, List.all_cons, List.all_nil, Bool.and_self, Bool.and_true, Bool.not_true, Bool.not_false, List.getElem?_cons_zero, List.getElem?_cons_succ, List.cons_append, List.nil_append, List.append_nil, List.reduceReplicate, Nat.reduceSub, Nat.sub_self, rI1, rI2, rAddD, rSubD, rMulD, rDivD, rModD, rPowD, rLtD, rLeD, rGtD, rGeD, List.set_cons_zero, List.set_cons_succ, List.set_nil, endsOf, outD, wipeD])
/-! ### the program's joining -/
def lotI (ns : List Nat) : PyData := .tuple (ns.map fun n => PyData.int (n : Nat))
def lotsOf (col : List Nat) : List (List Nat) := ((List.range col.length).filter fun f => decide (col.getD f 0 = f)).map fun f => (List.range col.length).filter fun i => decide (col.getD i 0 = f)
def lotsD (col : List Nat) : PyData := .tuple ((lotsOf col).map lotI)
def Canon (col : List Nat) : Prop := ∀ i, i < col.length → col.getD i 0 ≤ i ∧ col.getD (col.getD i 0) 0 = col.getD i 0
def S_column_marks : WE := fun δ P => ∃ cs : Cells, δ = [.d (.list (cs.map cellD))] ∧ cs.length ≤ 8 ∧ P (.l ((initCol cs).map fun n => PyData.int (n : Nat))) δ
def S_value_marks : WE := fun δ P => ∃ m rs, δ = [.d (tabD m rs)] ∧ TabOk m rs ∧ P (.l (marksD (initG m.toNat rs))) δ
def S_are_joined : WE := fun δ P => ∃ (m n : Nat) (G : Marks) (g : List Int) (i j : Nat), (δ = [.o (marksD G), .d (iT g), .d (.int i), .d (.int j)] ∨ δ = [.d (.list (marksD G)), .d (iT g), .d (.int i), .d (.int j)]) ∧ Shp m n G ∧ (∀ c ∈ g, 0 ≤ c ∧ c.toNat < m) ∧ g.length ≤ 5 ∧ i < n ∧ j < n ∧ P (.d (.bool (g.all fun c => decide (mrk G c.toNat i = mrk G c.toNat j)))) δ
def S_join_cells : WE := fun δ P => ∃ (m n : Nat) (G : Marks) (t i j : Nat), δ = [.o (marksD G), .d (.int t), .d (.int i), .d (.int j)] ∧ Shp m n G ∧ n ≤ 8 ∧ t < m ∧ i < n ∧ j < n ∧ P (.d .none) [.o (marksD (stepG G t i j)), .d (.int t), .d (.int i), .d (.int j)]
/-! ### steps -/
abbrev Step := Nat × Nat × Nat
def stepD (s : Step) : PyData := .tuple [.int (s.1 : Nat), .int (s.2.1 : Nat), .int (s.2.2 : Nat)]
def ruleAt (rl : List Rule) (n : Nat) : Rule := rl.getD n ([], 0)
def Able (G : Marks) (r : Rule) (i j : Nat) : Prop := ∀ g ∈ r.1, mrk G g.toNat i = mrk G g.toNat j
def ableB (G : Marks) (r : Rule) (i j : Nat) : Bool := r.1.all fun c => decide (mrk G c.toNat i = mrk G c.toNat j)
def goS (rl : List Rule) (G : Marks) (s : Step) : Marks := stepG G (ruleAt rl s.1).2.toNat s.2.1 s.2.2
inductive Run (n : Nat) (rl : List Rule) (G : Marks) : List Step → Marks → Prop
  | nil : Run n rl G [] G
  | snoc {G' : Marks} {st : List Step} {s : Step} : Run n rl G st G' → s.1 < rl.length → s.2.1 < s.2.2 → s.2.2 < n → Able G' (ruleAt rl s.1) s.2.1 s.2.2 → Run n rl G (st ++ [s]) (goS rl G' s)
def tryS (rl : List Rule) (n : Nat) (x : Marks × List Step) (p : Nat × Nat) : Marks × List Step := if (ableB x.1 (ruleAt rl n) p.1 p.2 && !decide (mrk x.1 (ruleAt rl n).2.toNat p.1 = mrk x.1 (ruleAt rl n).2.toNat p.2)) = true then (goS rl x.1 (n, p.1, p.2), x.2 ++ [(n, p.1, p.2)]) else x
def ruleS (rl : List Rule) (len n : Nat) (G : Marks) : Marks × List Step := (pairs len).foldl (tryS rl n) (G, [])
def roundS (rl : List Rule) (len : Nat) (x : Marks × List Step) (n : Nat) : Marks × List Step := ((ruleS rl len n x.1).1, x.2 ++ (ruleS rl len n x.1).2)
def turnS (rl : List Rule) (len : Nat) (x : Marks × List Step) : Marks × List Step := (List.range rl.length).foldl (roundS rl len) x
inductive AllS (rl : List Rule) (len : Nat) : Marks × List Step → Marks × List Step → Prop
  | stop {x : Marks × List Step} : (turnS rl len x).2.length = x.2.length → AllS rl len x (turnS rl len x)
  | more {x z : Marks × List Step} : (turnS rl len x).2.length ≠ x.2.length → AllS rl len (turnS rl len x) z → AllS rl len x z
def S_is_possible : WE := fun δ P => ∃ (m n : Nat) (G : Marks) (rl : List Rule) (s : Step), δ = [.o (marksD G), .d (rulesD rl), .d (stepD s)] ∧ Shp m n G ∧ s.1 < rl.length ∧ (∀ c ∈ (ruleAt rl s.1).1, 0 ≤ c ∧ c.toNat < m) ∧ (ruleAt rl s.1).1.length ≤ 5 ∧ s.2.1 < n ∧ s.2.2 < n ∧ P (.d (.bool (ableB G (ruleAt rl s.1) s.2.1 s.2.2))) δ
def S_take_step : WE := fun δ P => ∃ (m n : Nat) (G : Marks) (rl : List Rule) (s : Step), δ = [.o (marksD G), .d (rulesD rl), .d (stepD s)] ∧ Shp m n G ∧ n ≤ 8 ∧ s.1 < rl.length ∧ 0 ≤ (ruleAt rl s.1).2 ∧ (ruleAt rl s.1).2.toNat < m ∧ s.2.1 < n ∧ s.2.2 < n ∧ P (.d .none) [.o (marksD (goS rl G s)), .d (rulesD rl), .d (stepD s)]
def S_take_rule_steps : WE := fun δ P => ∃ (m : Int) (rs : List Cells) (rl : List Rule) (G : Marks) (n : Nat), δ = [.o (marksD G), .d (rulesD rl), .d (.int n), .d (.int (rs.length : Nat))] ∧ TabOk m rs ∧ RulesOk m rl ∧ n < rl.length ∧ IG m.toNat rs rl G ∧
  ∀ st G', Run rs.length rl G st G' → IG m.toNat rs rl G' → mu G' + st.length ≤ mu G → (st = [] → ∀ lo hi, lo < hi → hi < rs.length → ClosedAt G (ruleAt rl n) lo hi) → ruleS rl rs.length n G = (G', st) → P (.l (st.map stepD)) [.o (marksD G'), .d (rulesD rl), .d (.int n), .d (.int (rs.length : Nat))]
def S_take_all_steps : WE := fun δ P => ∃ (m : Int) (rs : List Cells) (rl : List Rule) (G : Marks), δ = [.o (marksD G), .d (rulesD rl), .d (.int (rs.length : Nat))] ∧ TabOk m rs ∧ RulesOk m rl ∧ IG m.toNat rs rl G ∧
  ∀ st G', Run rs.length rl G st G' → JM m.toNat rs rl G' → st.length ≤ 1000 → AllS rl rs.length (G, []) (G', st) → P (.l (st.map stepD)) [.o (marksD G'), .d (rulesD rl), .d (.int (rs.length : Nat))]
def S_joined_marks : WE := fun δ P => ∃ m rs rl, δ = [.d (tabD m rs), .d (rulesD rl)] ∧ TabOk m rs ∧ RulesOk m rl ∧ ∀ G, JM m.toNat rs rl G → P (.l (marksD G)) δ
def S_lots_of : WE := fun δ P => ∃ col : List Nat, δ = [.d (colD col)] ∧ col.length ≤ 8 ∧ Canon col ∧ P (.d (lotsD col)) δ
def S_lots : WE := fun δ P => ∃ m rs rl, δ = [.d (tabD m rs), .d (rulesD rl)] ∧ TabOk m rs ∧ RulesOk m rl ∧ ∀ G, JM m.toNat rs rl G → P (.d (.tuple (G.map lotsD))) δ
/-- slots: 0 cells, 1 row, 2 cell -/
def wb_column_marks : WS := (wRet (wLc (wEnum (wCons (wV 0) wNil)) (bTup 2 (bCons (bN 1) (bCons (bN 2) bNil))) wYes (wIf (wB (w2 (rIsT false) (wV 2) (wC .none))) (wV 1) (wIdx 0 (wV 2))) [1, 2]))
/-- slots: 0 table, 1 many, 2 rows, 3 column, 4 cells -/
def wb_value_marks : WS := (wThen (wAsg (wV 0) (bTup 2 (bCons (bN 1) (bCons (bN 2) bNil))))
      (wRet (wLc (wRng1 (wCons (wV 1) wNil)) (bN 3) wYes (wCall S_column_marks (wCons (wLc (wSeq (wV 2)) (bN 4) wYes (w2 rIxD (wV 4) (wV 3)) [4]) wNil)) [3])))
/-- slots: 0 marks, 1 columns, 2 row, 3 other, 4 column -/
def wb_are_joined : WS := (wRet (wCB rAllD (wCons (wLc (wSeq (wV 1)) (bN 4) wYes (w2 rEqT (w2 rIxD (w2 rIxD (wV 0) (wV 4)) (wV 2)) (w2 rIxD (w2 rIxD (wV 0) (wV 4)) (wV 3))) [4]) wNil)))
/-- slots: 0 marks, 1 column, 2 row, 3 other, 4 old, 5 kept, 6 gone, 7 mark -/
def wb_join_cells : WS := (wThen (wSet 4 (w2 rIxD (wV 0) (wV 1)))
      (wThen (wSet 5 (wCB rMin2D (wCons (w2 rIxD (wV 4) (wV 2)) (wCons (w2 rIxD (wV 4) (wV 3)) wNil))))
      (wThen (wSet 6 (wCB rMax2D (wCons (w2 rIxD (wV 4) (wV 2)) (wCons (w2 rIxD (wV 4) (wV 3)) wNil))))
      (wSetI 0 (wV 1) (wLc (wSeq (wV 4)) (bN 7) wYes (wIf (wB (w2 rEqT (wV 7) (wV 6))) (wV 5) (wV 7)) [7])))))
/-- slots: 0 marks, 1 rules, 2 step, 3 number, 4 row, 5 other -/
def wb_is_possible : WS := (wThen (wAsg (wV 2) (bTup 3 (bCons (bN 3) (bCons (bN 4) (bCons (bN 5) bNil)))))
      (wRet (wCallO S_are_joined 0 (wCons (w2 rIxD (w2 rIxD (wV 1) (wV 3)) (wC (.int 0))) (wCons (wV 4) (wCons (wV 5) wNil))))))
/-- slots: 0 marks, 1 rules, 2 step, 3 number, 4 row, 5 other -/
def wb_take_step : WS := (wThen (wAsg (wV 2) (bTup 3 (bCons (bN 3) (bCons (bN 4) (bCons (bN 5) bNil)))))
      (wDrop (wCallO S_join_cells 0 (wCons (w2 rIxD (w2 rIxD (wV 1) (wV 3)) (wC (.int 1))) (wCons (wV 4) (wCons (wV 5) wNil))))))
/-- slots: 0 marks, 1 rules, 2 number, 3 amount, 4 then, 5 taken, 6 row, 7 other, 8 step -/
def wb_take_rule_steps : WS := (wThen (wSet 4 (w2 rIxD (w2 rIxD (wV 1) (wV 2)) (wC (.int 1))))
      (wThen (wSet 5 (wLst wNil))
      (wThen (wFor (wSeq (wCall S_row_pairs (wCons (wV 3) wNil))) (bTup 2 (bCons (bN 6) (bCons (bN 7) bNil))) (wThen (wSet 8 (wTup (wCons (wV 2) (wCons (wV 6) (wCons (wV 7) wNil)))))
      (wIfS (wAndT (wTru (wCallO S_is_possible 0 (wCons (wV 1) (wCons (wV 8) wNil)))) (wNotT (wTru (wCallO S_are_joined 0 (wCons (wTup (wCons (wV 4) wNil)) (wCons (wV 6) (wCons (wV 7) wNil))))))) (wThen (wDrop (wCallO S_take_step 0 (wCons (wV 1) (wCons (wV 8) wNil))))
      (wDrop (wApp 5 (wV 8)))) wNext)))
      (wRet (wV 5)))))
/-- slots: 0 marks, 1 rules, 2 amount, 3 taken, 4 before, 5 number -/
def wb_take_all_steps : WS := (wThen (wSet 3 (wLst wNil))
      (wThen (wSet 4 (wNeg (wC (.int 1))))
      (wThen (wWhile (wB (w2 rNeT (wV 4) (wCB rLenD (wCons (wV 3) wNil)))) (wThen (wSet 4 (wCB rLenD (wCons (wV 3) wNil)))
      (wFor (wRng1 (wCons (wCB rLenD (wCons (wV 1) wNil)) wNil)) (bN 5) (wDrop (wExtL 3 (wCallO S_take_rule_steps 0 (wCons (wV 1) (wCons (wV 5) (wCons (wV 2) wNil)))))))))
      (wRet (wV 3)))))
/-- slots: 0 table, 1 rules, 2 marks -/
def wb_joined_marks : WS := (wThen (wSet 2 (wCall S_value_marks (wCons (wV 0) wNil)))
      (wThen (wDrop (wCallO S_take_all_steps 2 (wCons (wV 1) (wCons (wCB rLenD (wCons (w2 rIxD (wV 0) (wC (.int 1))) wNil)) wNil))))
      (wRet (wV 2))))
/-- slots: 0 marks, 1 first, 2 row, 3 mark -/
def wb_lots_of : WS := (wRet (wCB rTupleD (wCons (wLc (wSeq (wSortSet (wV 0))) (bN 1) wYes (wCB rTupleD (wCons (wLc (wEnum (wCons (wV 0) wNil)) (bTup 2 (bCons (bN 2) (bCons (bN 3) bNil))) (wB (w2 rEqT (wV 3) (wV 1))) (wV 2) [2, 3]) wNil)) [1]) wNil)))
/-- slots: 0 table, 1 rules, 2 marks -/
def wb_lots : WS := (wThen (wDrop (wCall S_need_table (wCons (wV 0) wNil)))
      (wThen (wDrop (wCall S_need_rules (wCons (w2 rIxD (wV 0) (wC (.int 0))) (wCons (wV 1) wNil))))
      (wRet (wCB rTupleD (wCons (wLc (wSeq (wCall S_joined_marks (wCons (wV 0) (wCons (wV 1) wNil)))) (bN 2) wYes (wCall S_lots_of (wCons (wV 2) wNil)) [2]) wNil)))))
theorem pairs_lt {n : Nat} {p : Nat × Nat} (h : p ∈ pairs n) : p.1 < p.2 := by
  unfold pairs at h
  rw [List.mem_flatMap] at h
  obtain ⟨a, _, h⟩ := h
  obtain ⟨j, _, rfl⟩ := List.mem_map.mp h
  show a < a + 1 + j
  omega
theorem pairs_mem {n lo hi : Nat} (l1 : lo < hi) (l2 : hi < n) : (lo, hi) ∈ pairs n := by
  unfold pairs
  rw [List.mem_flatMap]
  refine ⟨lo, List.mem_range.mpr (by omega), List.mem_map.mpr ⟨hi - (lo + 1), List.mem_range.mpr (by omega), ?_⟩⟩
  congr 1
  omega
theorem hS_column_marks : ∀ δ P, S_column_marks δ P → ArgOk 1 δ ∧ wb_column_marks (endsOf δ P) (δ ++ List.replicate (3 - 1) Sl.un) := by
  rintro δ P ⟨cs, rfl, h8, h⟩
  refine ⟨argD [.list (cs.map cellD)], ?_⟩
  unfold wb_column_marks
  walk_at "ds"
  refine ⟨⟨by rw [enumT, List.length_map]; simp; omega, rfl⟩, ?_⟩
  rw [enumT]
  refine go_mapT _ (fun p : Option Int × Nat => PyData.int ((match p.1 with | none => p.2 | some v => cs.findIdx fun z => decide (z = some v)) : Nat)) cs.zipIdx (fun p hp C C' hc => ?_) ?_
  · walk_at "ds"
    refine ⟨rfl, ?_⟩
    obtain ⟨c, j⟩ := p
    cases c with
    | none =>
      refine ifT rfl ?_
      exact ⟨rfl, hc⟩
    | some v =>
      refine ifT rfl ?_
      refine is_ok (k := false) rfl ?_
      walk_at "ds"
      refine ifF rfl ?_
      have hm : some v ∈ cs := by
        have := List.mem_zipIdx hp
        have h2 := List.getElem_mem (l := cs) (n := j - 0) (by omega)
        rw [← this.2.2] at h2
        exact h2
      refine ⟨⟨rfl, flat_cells _⟩, ?_⟩
      show match idxD (cs.map cellD) (.int v) with | some j => _ | none => False
      rw [idx_ok hm]
      exact ⟨rfl, hc⟩
  have e : (cs.zipIdx.map fun p : Option Int × Nat => PyData.int ((match p.1 with | none => p.2 | some v => cs.findIdx fun z => decide (z = some v)) : Nat)) = (initCol cs).map fun n => PyData.int (n : Nat) := by
    unfold initCol
    rw [List.map_map]
    rfl
  rw [e]
  exact h
theorem hS_value_marks : ∀ δ P, S_value_marks δ P → ArgOk 1 δ ∧ wb_value_marks (endsOf δ P) (δ ++ List.replicate (5 - 1) Sl.un) := by
  rintro δ P ⟨m, rs, rfl, ht, h⟩
  refine ⟨argD [tabD m rs], ?_⟩
  have m1 := ht.lo
  have m5 := ht.hi
  have n8 := ht.few
  unfold wb_value_marks tabD
  walk_at "ds"
  refine ⟨rfl, ?_⟩
  refine ⟨⟨by omega, by omega⟩, ⟨by rw [rangeD_len]; omega, rfl⟩, ?_⟩
  rw [rangeD_eq]
  refine go_mapT _ (fun c : Nat => colD (initCol (colOf rs c))) (List.range m.toNat) (fun c hc C C' hC => ?_) ?_
  · have hc := List.mem_range.mp hc
    rw [i0]
    unfold rowsD
    walk_at "ds"
    refine ifT rfl ?_
    refine ⟨⟨by rw [List.length_map]; omega, rfl⟩, ?_⟩
    refine go_mapT rowD (fun r => cellD (at_ r (c : Nat))) rs (fun r hr' C C' hc => ?_) ?_
    · have ro := ht.rows r hr'
      have l1 := ro.1
      walk_at "ds"
      refine ifT rfl (rowix (by omega) (by omega) ⟨rfl, hc⟩)
    walk_at "ds"
    have ecol : (rs.map fun r => cellD (at_ r (c : Nat))) = (colOf rs c).map cellD := by unfold colOf; rw [List.map_map]; rfl
    rw [ecol]
    refine ⟨rfl, colOf rs c, rfl, by unfold colOf; rw [List.length_map]; omega, ?_⟩
    exact ⟨rfl, hC⟩
  have e : ((List.range m.toNat).map fun c : Nat => colD (initCol (colOf rs c))) = marksD (initG m.toNat rs) := by
    unfold marksD initG
    rw [List.map_map]
    rfl
  rw [e]
  exact h
theorem hS_are_joined : ∀ δ P, S_are_joined δ P → ArgOk 4 δ ∧ wb_are_joined (endsOf δ P) (δ ++ List.replicate (5 - 4) Sl.un) := by
  rintro δ P ⟨m, n, G, g, i, j, (rfl | rfl), hs, hg, g5, hi, hj, h⟩
  case inr =>
    refine ⟨argD [.list (marksD G), iT g, .int i, .int j], ?_⟩
    unfold wb_are_joined iT
    walk_at "ds"
    refine ⟨⟨by rw [List.length_map]; omega, rfl⟩, ?_⟩
    refine go_mapT PyData.int (fun c => .bool (decide (mrk G c.toNat i = mrk G c.toNat j))) g (fun c hc C C' hC => ?_) ?_
    · obtain ⟨c0, cm⟩ := hg c hc
      obtain ⟨k, ek⟩ : ∃ k : Nat, c = (k : Int) := ⟨c.toNat, by omega⟩
      subst ek
      rw [Int.toNat_natCast] at cm hC
      walk_at "ds"
      refine ifT rfl ?_
      refine colix hs cm ?_
      walk_at "ds"
      refine mrkix hs cm hi ?_
      walk_at "ds"
      refine colix hs cm ?_
      walk_at "ds"
      refine mrkix hs cm hj ?_
      walk_at "ds"
      refine eq_ok (k := decide (mrk G k i = mrk G k j)) rfl (by rw [eqv_int]; exact decide_eq_decide.mpr (by omega)) ?_
      exact ⟨rfl, hC⟩
    walk_at "ds"
    refine all_ok (g.map fun c => decide (mrk G c.toNat i = mrk G c.toNat j)) (by rw [List.map_map]; rfl) ?_
    rw [List.all_map]
    exact h
  refine ⟨argO _ [iT g, .int i, .int j], ?_⟩
  unfold wb_are_joined iT
  walk_at "ds"
  refine ⟨⟨by rw [List.length_map]; omega, rfl⟩, ?_⟩
  refine go_mapT PyData.int (fun c => .bool (decide (mrk G c.toNat i = mrk G c.toNat j))) g (fun c hc C C' hC => ?_) ?_
  · obtain ⟨c0, cm⟩ := hg c hc
    obtain ⟨k, ek⟩ : ∃ k : Nat, c = (k : Int) := ⟨c.toNat, by omega⟩
    subst ek
    rw [Int.toNat_natCast] at cm hC
    walk_at "ds"
    refine ifT rfl ?_
    refine ⟨rfl, colix hs cm ?_⟩
    walk_at "ds"
    refine mrkix hs cm hi ?_
    walk_at "ds"
    refine ⟨rfl, colix hs cm ?_⟩
    walk_at "ds"
    refine mrkix hs cm hj ?_
    walk_at "ds"
    refine eq_ok (k := decide (mrk G k i = mrk G k j)) rfl (by rw [eqv_int]; exact decide_eq_decide.mpr (by omega)) ?_
    exact ⟨rfl, hC⟩
  walk_at "ds"
  refine all_ok (g.map fun c => decide (mrk G c.toNat i = mrk G c.toNat j)) (by rw [List.map_map]; rfl) ?_
  rw [List.all_map]
  exact h
theorem hS_join_cells : ∀ δ P, S_join_cells δ P → ArgOk 4 δ ∧ wb_join_cells (endsOf δ P) (δ ++ List.replicate (8 - 4) Sl.un) := by
  rintro δ P ⟨m, n, G, t, i, j, rfl, hs, n8, ht, hi, hj, h⟩
  refine ⟨argO _ [.int t, .int i, .int j], ?_⟩
  unfold wb_join_cells
  walk_at "ds"
  refine ⟨rfl, colix hs ht ?_⟩
  walk_at "ds"
  refine mrkix hs ht hi ?_
  walk_at "ds"
  refine mrkix hs ht hj ?_
  walk_at "ds"
  refine mrkix hs ht hi ?_
  walk_at "ds"
  refine mrkix hs ht hj ?_
  have e1 : (if ((mrk G t j : Nat) : Int) < (mrk G t i : Nat) then ((mrk G t j : Nat) : Int) else (mrk G t i : Nat)) = ((min (mrk G t i) (mrk G t j) : Nat) : Int) := by split <;> omega
  have e2 : (if ((mrk G t j : Nat) : Int) > (mrk G t i : Nat) then ((mrk G t j : Nat) : Int) else (mrk G t i : Nat)) = ((max (mrk G t i) (mrk G t j) : Nat) : Int) := by split <;> omega
  have hcl : (G.getD t []).length = n := (hs.at ht).2
  unfold colD
  walk_at "ds"
  rw [e1, e2]
  generalize ea : min (mrk G t i) (mrk G t j) = a
  generalize eb : max (mrk G t i) (mrk G t j) = b
  refine ⟨⟨by rw [List.length_map]; omega, rfl⟩, ?_⟩
  refine go_mapT (fun n : Nat => PyData.int (n : Nat)) (fun x : Nat => PyData.int (lower a b x : Nat)) (G.getD t []) (fun x hx C C' hc => ?_) ?_
  · walk_at "ds"
    refine ifT rfl ?_
    refine eq_ok (k := decide (x = b)) rfl (by rw [eqv_int]; exact decide_eq_decide.mpr (by omega)) ?_
    walk_at "ds"
    unfold lower at hc
    cases ex : decide (x = b) with
    | true =>
      rw [if_pos (of_decide_eq_true ex)] at hc
      exact ifT rfl ⟨rfl, hc⟩
    | false =>
      rw [if_neg (of_decide_eq_false ex)] at hc
      exact ifF rfl ⟨rfl, hc⟩
  walk_at "ds"
  refine ⟨rfl, ?_⟩
  have ei : ixN (marksD G).length ((t : Nat) : Int) = some t := by
    unfold ixN marksD
    rw [if_pos (by omega), if_pos (by rw [List.length_map, hs.cols]; omega)]
    rfl
  rw [ei]
  dsimp only
  have es : (marksD G).set t (.list ((G.getD t []).map fun x : Nat => PyData.int (lower a b x : Nat))) = marksD (stepG G t i j) := by
    unfold marksD stepG
    rw [ea, eb, List.map_set]
    unfold colD
    rw [List.map_map]
    rfl
  rw [← es] at h
  exact h
theorem ruleAt_mem {rl : List Rule} {n : Nat} (h : n < rl.length) : rl[n]? = some (ruleAt rl n) ∧ ruleAt rl n ∈ rl := by
  have e : rl[n]? = some (ruleAt rl n) := by
    unfold ruleAt
    rw [List.getD_eq_getElem?_getD, List.getElem?_eq_getElem h]; rfl
  exact ⟨e, List.mem_of_getElem? e⟩
theorem ruleix {rl : List Rule} {n : Nat} {P : Rv → Prop} (h : n < rl.length) (q : P (.d (ruleD (ruleAt rl n)))) : Dw.rIxD (rulesD rl) (.int (n : Nat)) P := by
  refine tupix (atI_of (Int.natCast_nonneg _) ?_) q
  rw [Int.toNat_natCast, List.getElem?_map, (ruleAt_mem h).1]
  rfl
theorem able_iff {G : Marks} {r : Rule} {i j : Nat} : ableB G r i j = true ↔ Able G r i j := by
  unfold ableB Able
  rw [List.all_eq_true]
  exact ⟨fun h g hg => of_decide_eq_true (h g hg), fun h g hg => decide_eq_true (h g hg)⟩
theorem Run.app {n : Nat} {rl : List Rule} {G G1 G2 : Marks} {s1 s2 : List Step} (a : Run n rl G s1 G1) (b : Run n rl G1 s2 G2) : Run n rl G (s1 ++ s2) G2 := by
  induction b with
  | nil => rw [List.append_nil]; exact a
  | snoc _ h1 h2 h3 h4 ih => rw [← List.append_assoc]; exact .snoc ih h1 h2 h3 h4
theorem run_nil {n : Nat} {rl : List Rule} {G G' : Marks} {st : List Step} (h : Run n rl G st G') (e : st = []) : G' = G := by
  cases h with
  | nil => rfl
  | snoc => simp at e
theorem hS_is_possible : ∀ δ P, S_is_possible δ P → ArgOk 3 δ ∧ wb_is_possible (endsOf δ P) (δ ++ List.replicate (6 - 3) Sl.un) := by
  rintro δ P ⟨m, n, G, rl, ⟨k, i, j⟩, rfl, hs, hk, hg, h5, hi, hj, h⟩
  refine ⟨argO _ [rulesD rl, stepD (k, i, j)], ?_⟩
  unfold wb_is_possible stepD
  walk_at "ds"
  refine ⟨rfl, ?_⟩
  refine ruleix hk ?_
  unfold ruleD
  walk_at "ds"
  refine tupix (z := iT (ruleAt rl k).1) rfl ?_
  exact ⟨rfl, m, n, G, _, i, j, .inl rfl, hs, hg, h5, hi, hj, h⟩
theorem hS_take_step : ∀ δ P, S_take_step δ P → ArgOk 3 δ ∧ wb_take_step (endsOf δ P) (δ ++ List.replicate (6 - 3) Sl.un) := by
  rintro δ P ⟨m, n, G, rl, ⟨k, i, j⟩, rfl, hs, n8, hk, h0, hm, hi, hj, h⟩
  refine ⟨argO _ [rulesD rl, stepD (k, i, j)], ?_⟩
  unfold wb_take_step stepD
  walk_at "ds"
  refine ⟨rfl, ?_⟩
  refine ruleix hk ?_
  unfold ruleD
  walk_at "ds"
  refine tupix (z := .int (ruleAt rl k).2) rfl ?_
  obtain ⟨t, et⟩ : ∃ t : Nat, (ruleAt rl k).2 = (t : Int) := ⟨(ruleAt rl k).2.toNat, by have : 0 ≤ (ruleAt rl k).2 := h0; omega⟩
  have et' : (ruleAt rl k).2.toNat = t := by rw [et]; rfl
  have hm : (ruleAt rl k).2.toNat < m := hm
  unfold goS at h
  rw [show (ruleAt rl (k, i, j).1).2.toNat = t from et'] at h
  refine ⟨rfl, m, n, G, t, i, j, by rw [et]; rfl, hs, n8, by omega, hi, hj, ?_⟩
  exact h
theorem AllS.det {rl : List Rule} {len : Nat} {x y z : Marks × List Step} (h : AllS rl len x y) (g : AllS rl len x z) : y = z := by
  induction h with
  | stop e =>
    cases g with
    | stop _ => rfl
    | more n _ => exact absurd e n
  | more n _ ih =>
    cases g with
    | stop e => exact absurd e n
    | more _ g => exact ih g
theorem fold_next {α β : Type} {f : β → α → β} {l : List α} {k : Nat} {y : α} {x : β} (h : l[k]? = some y) : (l.take (k + 1)).foldl f x = f ((l.take k).foldl f x) y := by
  rw [List.take_add_one, h, List.foldl_append]
  rfl
theorem hS_take_rule_steps : ∀ δ P, S_take_rule_steps δ P → ArgOk 4 δ ∧ wb_take_rule_steps (endsOf δ P) (δ ++ List.replicate (9 - 4) Sl.un) := by
  rintro δ P ⟨m, rs, rl, G0, n, rfl, ht, hr, hn, hG0, h⟩
  refine ⟨argO _ [rulesD rl, .int (n : Nat), .int (rs.length : Nat)], ?_⟩
  have m1 := ht.lo
  have m5 := ht.hi
  have n8 := ht.few
  have hrm := (ruleAt_mem hn).2
  have rok := hr.all _ hrm
  generalize hr0 : ruleAt rl n = r at *
  have hlo := rok.lo
  have hhi := rok.hi
  have c5 := rok.cols.few
  have tm : r.2.toNat < m.toNat := by omega
  have gm : ∀ g ∈ r.1, 0 ≤ g ∧ g.toNat < m.toNat := fun g hg => by have := rok.cols.inn g hg; omega
  unfold wb_take_rule_steps
  refine seqT fun T hT => ?_
  walk_at "ds"
  refine ruleix hn ?_
  rw [hr0]
  unfold ruleD
  walk_at "ds"
  refine tupix (z := .int r.2) rfl ?_
  walk_at "ds"
  subst hT
  refine seqT fun T hT => ?_
  walk_at "ds"
  refine ⟨⟨rfl, by simp⟩, ?_⟩
  subst hT
  refine seqT fun T hT => ?_
  walk_at "ds"
  refine ⟨rfl, rs.length, rfl, by omega, ?_⟩
  walk_at "ds"
  refine loopT pairD (pairs rs.length) (fun i δ => ∃ G st y6 y7 y8, δ = [.o (marksD G), .d (rulesD rl), .d (.int (n : Nat)), .d (.int (rs.length : Nat)), .d (.int r.2), .o (st.map stepD), y6, y7, y8] ∧ Run rs.length rl G0 st G ∧ IG m.toNat rs rl G ∧ mu G + st.length ≤ mu G0 ∧ st.length ≤ i ∧ (st = [] → G = G0 ∧ ∀ p ∈ (pairs rs.length).take i, ClosedAt G0 r p.1 p.2) ∧ ((pairs rs.length).take i).foldl (tryS rl n) (G0, []) = (G, st)) ⟨G0, [], .un, .un, .un, rfl, .nil, hG0, Nat.le_refl _, Nat.le_refl _, fun _ => ⟨rfl, fun p hp => by simp at hp⟩, rfl⟩ ?_ ?_
  · rintro k ⟨a, b⟩ δ C hx ⟨G, st, y6, y7, y8, rfl, hrun, hG, hmu, hlen, hst, hfo⟩ hC
    have hp := mem_pairs (List.mem_of_getElem? hx)
    have ha : a < rs.length := by have := hp; omega
    have hb : b < rs.length := by have := hp; omega
    have hab : a < b := pairs_lt (List.mem_of_getElem? hx)
    have hk64 : k < rs.length * rs.length := by
      have := (List.getElem?_eq_some_iff.mp hx).1
      have := pairs_len rs.length
      omega
    have hk : k < 64 := Nat.lt_of_lt_of_le hk64 (Nat.mul_le_mul n8 n8)
    unfold pairD
    walk_at "ds"
    refine ⟨rfl, ?_⟩
    refine ⟨⟨rfl, by simp⟩, ?_⟩
    refine ⟨rfl, m.toNat, rs.length, G, rl, (n, a, b), rfl, hG.shp, hn, by rw [hr0]; exact gm, by rw [hr0]; exact c5, ha, hb, ?_⟩
    rw [hr0]
    walk_at "ds"
    have tr : ((pairs rs.length).take (k + 1)).foldl (tryS rl n) (G0, []) = tryS rl n (G, st) (a, b) := by rw [fold_next hx, hfo]
    have ts : tryS rl n (G, st) (a, b) = if (ableB G r a b && !decide (mrk G r.2.toNat a = mrk G r.2.toNat b)) = true then (goS rl G (n, a, b), st ++ [(n, a, b)]) else (G, st) := by unfold tryS; simp only [hr0]
    rw [ts] at tr
    have skip : ClosedAt G r a b → ((pairs rs.length).take (k + 1)).foldl (tryS rl n) (G0, []) = (G, st) → C [.o (marksD G), .d (rulesD rl), .d (.int (n : Nat)), .d (.int (rs.length : Nat)), .d (.int r.2), .o (st.map stepD), .d (.int (a : Nat)), .d (.int (b : Nat)), .d (stepD (n, a, b))] := fun q tr => by
      refine hC _ ⟨G, st, _, _, _, rfl, hrun, hG, hmu, by omega, fun e => ?_, tr⟩
      obtain ⟨y, z⟩ := hst e
      refine ⟨y, fun p hp => ?_⟩
      rw [List.take_add_one, hx] at hp
      rcases List.mem_append.mp hp with w | w
      · exact z p w
      · obtain rfl : p = (a, b) := by simpa using w
        rw [← y]; exact q
    cases e1 : ableB G r a b with
    | false =>
      rw [e1] at tr
      refine ifF rfl (ifF rfl (skip (fun z => ?_) tr))
      rw [able_iff.mpr z] at e1
      cases e1
    | true =>
      refine ifT rfl ?_
      refine ⟨⟨rfl, by simp⟩, rfl, m.toNat, rs.length, G, [r.2], a, b, .inl rfl, hG.shp, fun c hc => ?_, by simp, ha, hb, ?_⟩
      · obtain rfl : c = r.2 := by simpa using hc
        exact ⟨hlo, tm⟩
      have e2 : ([r.2].all fun c => decide (mrk G c.toNat a = mrk G c.toNat b)) = decide (mrk G r.2.toNat a = mrk G r.2.toNat b) := by simp
      rw [e2]
      walk_at "ds"
      cases e3 : decide (mrk G r.2.toNat a = mrk G r.2.toNat b) with
      | true =>
        rw [e1, e3] at tr
        exact ifF rfl (skip (fun _ => of_decide_eq_true e3) tr)
      | false =>
        have ne := of_decide_eq_false e3
        refine ifT rfl ?_
        have able : Able G r a b := able_iff.mp e1
        have hst2 := hG.step hrm (lo := a) (hi := b) tm ha hb (fun g hg => (gm g hg).2) able ne
        have hmu2 := step_mu hG.shp tm ha hb ne
        have eg : goS rl G (n, a, b) = stepG G r.2.toNat a b := by unfold goS; rw [hr0]
        refine ⟨rfl, m.toNat, rs.length, G, rl, (n, a, b), rfl, hG.shp, n8, hn, by rw [hr0]; exact hlo, by rw [hr0]; exact tm, ha, hb, ?_⟩
        walk_at "ds"
        refine ⟨rfl, by rw [List.length_map]; omega, ?_⟩
        walk_at "ds"
        refine hC _ ⟨goS rl G (n, a, b), st ++ [(n, a, b)], _, _, _, by rw [List.map_append]; rfl, .snoc hrun hn hab hb (by rw [hr0]; exact able), by rw [eg]; exact hst2, ?_, ?_, fun e => by simp at e, by rw [e1, e3] at tr; exact tr⟩
        · rw [eg, List.length_append]
          simp only [List.length_cons, List.length_nil]
          omega
        · rw [List.length_append]
          simp only [List.length_cons, List.length_nil]
          omega
  · rintro δ ⟨G, st, y6, y7, y8, rfl, hrun, hG, hmu, hlen, hst, hfo⟩
    subst hT
    walk_at "ds"
    refine ⟨by decide, h st G hrun hG hmu (fun e lo hi l1 l2 => ?_) (by rw [List.take_length] at hfo; exact hfo)⟩
    obtain ⟨_, z⟩ := hst e
    rw [List.take_length] at z
    exact z (lo, hi) (pairs_mem l1 l2)
theorem sum_le (k : Nat) : ∀ l : List Nat, (∀ x ∈ l, x ≤ k) → l.sum ≤ k * l.length
  | [], _ => by simp
  | x :: l, h => by
    have := sum_le k l fun y hy => h y (List.mem_cons_of_mem _ hy)
    have := h x List.mem_cons_self
    rw [List.sum_cons, List.length_cons, Nat.mul_succ]
    omega
theorem IG.mu_le {m : Nat} {rs : List Cells} {rl : List Rule} {G : Marks} (h : IG m rs rl G) (n8 : rs.length ≤ 8) (m5 : m ≤ 5) : mu G ≤ 320 := by
  have col : ∀ c ∈ G, c.sum ≤ 64 := fun c hc => by
    have hl := h.shp.rows c hc
    obtain ⟨k, hk, rfl⟩ := List.getElem_of_mem hc
    have hkm : k < m := by rw [← h.shp.cols]; exact hk
    refine Nat.le_trans (sum_le 8 _ fun x hx => ?_) (by rw [hl]; omega)
    obtain ⟨i, hi, rfl⟩ := List.getElem_of_mem hx
    have hin : i < rs.length := by rw [← hl]; exact hi
    have := (h.le k i hkm hin).1
    have e : mrk G k i = G[k][i] := by
      unfold mrk
      rw [List.getD_eq_getElem?_getD (l := G), List.getElem?_eq_getElem hk]
      simp only [Option.getD_some]
      rw [List.getD_eq_getElem?_getD, List.getElem?_eq_getElem hi]
      rfl
    omega
  unfold mu
  have := sum_le 64 (G.map List.sum) fun x hx => by
    obtain ⟨c, hc, rfl⟩ := List.mem_map.mp hx
    exact col c hc
  rw [List.length_map, h.shp.cols] at this
  have : 64 * m ≤ 64 * 5 := Nat.mul_le_mul_left _ m5
  omega
theorem hS_take_all_steps : ∀ δ P, S_take_all_steps δ P → ArgOk 3 δ ∧ wb_take_all_steps (endsOf δ P) (δ ++ List.replicate (6 - 3) Sl.un) := by
  rintro δ P ⟨m, rs, rl, G0, rfl, ht, hr, hG0, h⟩
  refine ⟨argO _ [rulesD rl, .int (rs.length : Nat)], ?_⟩
  have m1 := ht.lo
  have m5 := ht.hi
  have n8 := ht.few
  have r8 := hr.few
  have mu0 := hG0.mu_le n8 (by omega)
  unfold wb_take_all_steps
  refine seqT fun T hT => ?_
  walk_at "ds"
  refine ⟨⟨rfl, by simp⟩, ?_⟩
  subst hT
  refine seqT fun T hT => ?_
  walk_at "ds"
  subst hT
  refine seqT fun T hT => ?_
  refine ⟨fun v δ => ∃ G st b y5, δ = [.o (marksD G), .d (rulesD rl), .d (.int (rs.length : Nat)), .o (st.map stepD), .d (.int b), y5] ∧ Run rs.length rl G0 st G ∧ IG m.toNat rs rl G ∧ mu G + st.length ≤ mu G0 ∧ ((b ≠ (st.length : Nat) ∧ v = mu G + 1) ∨ (b = (st.length : Nat) ∧ v = 0 ∧ ∀ r ∈ rl, ∀ lo hi, lo < hi → hi < rs.length → ClosedAt G r lo hi)) ∧ (b = (st.length : Nat) → AllS rl rs.length (G0, []) (G, st)) ∧ (b ≠ (st.length : Nat) → ∀ z, AllS rl rs.length (G, st) z → AllS rl rs.length (G0, []) z), ⟨_, G0, [], -1, .un, rfl, .nil, hG0, Nat.le_refl _, .inl ⟨by decide, rfl⟩, fun e => absurd e (by decide), fun _ z hz => hz⟩, ?_⟩
  rintro v δ ⟨G1, st1, b, y5, rfl, hrun1, hG1, hmu1, hv, hA1, hA2⟩
  walk_at "ds"
  refine ⟨rfl, ?_⟩
  rw [List.length_map]
  refine ne_ok (k := decide (b = ((st1.length : Nat) : Int))) rfl (eqv_int _ _) ?_
  walk_at "ds"
  rcases hv with ⟨hb, rfl⟩ | ⟨hb, rfl, hcl⟩
  · rw [decide_eq_false hb]
    refine ifT rfl ?_
    walk_at "ds"
    refine ⟨rfl, ?_⟩
    unfold rulesD
    walk_at "ds"
    simp only [List.length_map]
    refine ⟨⟨by omega, by omega⟩, ?_⟩
    refine loopR (lo := 0) ((rl.length : Nat) : Int).toNat (fun i δ => ∃ G st y5, δ = [.o (marksD G), .d (rulesD rl), .d (.int (rs.length : Nat)), .o (st.map stepD), .d (.int (st1.length : Nat)), y5] ∧ Run rs.length rl G0 st G ∧ IG m.toNat rs rl G ∧ mu G + st.length ≤ mu G1 + st1.length ∧ st1.length ≤ st.length ∧ (st.length = st1.length → G = G1 ∧ ∀ k, k < i → ∀ lo hi, lo < hi → hi < rs.length → ClosedAt G1 (ruleAt rl k) lo hi) ∧ ((List.range rl.length).take i).foldl (roundS rl rs.length) (G1, st1) = (G, st)) ⟨G1, st1, y5, rfl, hrun1, hG1, Nat.le_refl _, Nat.le_refl _, fun _ => ⟨rfl, fun k hk => by omega⟩, rfl⟩ ?_ ?_
    · rintro i δ C hi ⟨G, st, y5, rfl, hrun, hG, hmu, hle, hst, hfo⟩ hC
      have hi : i < rl.length := by simpa using hi
      rw [i0]
      walk_at "ds"
      refine ⟨rfl, m, rs, rl, G, i, rfl, ht, hr, hi, hG, fun st' G' hr' hG' hm' hc' hf' => ?_⟩
      walk_at "ds"
      refine ⟨by rw [List.length_map, List.length_map]; omega, ?_⟩
      refine hC _ ⟨G', st ++ st', _, by rw [List.map_append], hrun.app hr', hG', by rw [List.length_append]; omega, by rw [List.length_append]; omega, fun e => ?_, by rw [fold_next (List.getElem?_range hi), hfo]; unfold roundS; rw [hf']⟩
      rw [List.length_append] at e
      have l' : st'.length = 0 := by omega
      have e' : st' = [] := List.eq_nil_of_length_eq_zero l'
      obtain ⟨y, z⟩ := hst (by omega)
      have eG := run_nil hr' e'
      subst eG
      refine ⟨y, fun k hk => ?_⟩
      by_cases q : k = i
      · subst q
        rw [← y]; exact hc' e'
      · exact z k (by omega)
    · rintro δ ⟨G, st, y5, rfl, hrun, hG, hmu, hle, hst, hfo⟩
      have tn : turnS rl rs.length (G1, st1) = (G, st) := by
        rw [show ((rl.length : Nat) : Int).toNat = (List.range rl.length).length by simp, List.take_length] at hfo
        exact hfo
      by_cases q : st.length = st1.length
      · obtain ⟨y, z⟩ := hst q
        refine ⟨0, by omega, G, st, _, y5, rfl, hrun, hG, by omega, .inr ⟨by rw [q], rfl, fun r hr' => ?_⟩, fun _ => hA2 hb _ (by have := AllS.stop (rl := rl) (len := rs.length) (x := (G1, st1)) (by rw [tn]; exact q); rw [tn] at this; exact this), fun z => absurd (by rw [q]) z⟩
        obtain ⟨k, hk, rfl⟩ := List.getElem_of_mem hr'
        have e : ruleAt rl k = rl[k] := by
          have := (ruleAt_mem hk).1
          rw [List.getElem?_eq_getElem hk] at this
          exact (Option.some.inj this).symm
        rw [← e, y]
        exact z k (by simpa using hk)
      · exact ⟨mu G + 1, by omega, G, st, _, y5, rfl, hrun, hG, by omega, .inl ⟨by omega, rfl⟩, fun z => absurd z (by omega), fun _ z hz => hA2 hb z (.more (by rw [tn]; exact q) (by rw [tn]; exact hz))⟩
  · rw [decide_eq_true hb]
    refine ifF rfl ?_
    subst hT
    walk_at "ds"
    exact ⟨by decide, h st1 G1 hrun1 (hG1.done hcl) (by omega) (hA1 hb)⟩
theorem hS_joined_marks : ∀ δ P, S_joined_marks δ P → ArgOk 2 δ ∧ wb_joined_marks (endsOf δ P) (δ ++ List.replicate (3 - 2) Sl.un) := by
  rintro δ P ⟨m, rs, rl, rfl, ht, hr, h⟩
  refine ⟨argD [tabD m rs, rulesD rl], ?_⟩
  unfold wb_joined_marks
  refine seqT fun T hT => ?_
  walk_at "ds"
  refine ⟨rfl, m, rs, rfl, ht, ?_⟩
  walk_at "ds"
  subst hT
  refine seqT fun T hT => ?_
  unfold tabD
  walk_at "ds"
  refine tupix (z := rowsD rs) rfl ?_
  unfold rowsD
  walk_at "ds"
  rw [List.length_map]
  refine ⟨rfl, m, rs, rl, _, rfl, ht, hr, init_ok, fun st G _ hG _ _ => ?_⟩
  subst hT
  walk_at "ds"
  exact ⟨by decide, h G hG⟩
theorem asc_eq : ∀ (l l' : List Int), l.Pairwise (· < ·) → l'.Pairwise (· < ·) → (∀ k, k ∈ l ↔ k ∈ l') → l = l'
  | [], [], _, _, _ => rfl
  | [], b :: l', _, _, h => by have := (h b).mpr List.mem_cons_self; simp at this
  | a :: l, [], _, _, h => by have := (h a).mp List.mem_cons_self; simp at this
  | a :: l, b :: l', p, p', h => by
    obtain ⟨p1, p2⟩ := List.pairwise_cons.mp p
    obtain ⟨q1, q2⟩ := List.pairwise_cons.mp p'
    have ab : a = b := by
      rcases List.mem_cons.mp ((h a).mp List.mem_cons_self) with z | z
      · exact z
      · rcases List.mem_cons.mp ((h b).mpr List.mem_cons_self) with w | w
        · exact w.symm
        · have := q1 a z
          have := p1 b w
          omega
    subst ab
    congr 1
    refine asc_eq l l' p2 q2 fun k => ⟨fun z => ?_, fun z => ?_⟩
    · rcases List.mem_cons.mp ((h k).mp (List.mem_cons_of_mem _ z)) with w | w
      · have := p1 k z; omega
      · exact w
    · rcases List.mem_cons.mp ((h k).mpr (List.mem_cons_of_mem _ z)) with w | w
      · have := q1 k z; omega
      · exact w
def firsts (col : List Nat) : List Nat := (List.range col.length).filter fun f => decide (col.getD f 0 = f)
theorem getD_mem {col : List Nat} {i : Nat} (h : i < col.length) : col.getD i 0 ∈ col := by
  rw [List.getD_eq_getElem?_getD, List.getElem?_eq_getElem h]
  exact List.getElem_mem h
theorem firsts_of {col : List Nat} (hc : Canon col) {ms : List Int} (p : ms.Pairwise (· < ·)) (hm : ∀ k : Int, k ∈ ms ↔ k ∈ col.map fun n => ((n : Nat) : Int)) : ms = (firsts col).map fun n => ((n : Nat) : Int) := by
  refine asc_eq _ _ p ?_ fun k => ?_
  · unfold firsts
    exact List.Pairwise.map _ (fun a b (h : a < b) => by omega) (List.Pairwise.filter _ List.pairwise_lt_range)
  · rw [hm k, List.mem_map, List.mem_map]
    constructor
    · rintro ⟨n, hn, rfl⟩
      obtain ⟨i, hi, rfl⟩ := List.getElem_of_mem hn
      have e : col.getD i 0 = col[i] := by rw [List.getD_eq_getElem?_getD, List.getElem?_eq_getElem hi]; rfl
      have c := hc i hi
      rw [e] at c
      refine ⟨col[i], ?_, rfl⟩
      unfold firsts
      rw [List.mem_filter]
      exact ⟨List.mem_range.mpr (by omega), decide_eq_true c.2⟩
    · rintro ⟨n, hn, rfl⟩
      unfold firsts at hn
      obtain ⟨h1, h2⟩ := List.mem_filter.mp hn
      have h1 := List.mem_range.mp h1
      have h2 := of_decide_eq_true h2
      refine ⟨n, ?_, rfl⟩
      have := getD_mem h1
      rw [h2] at this
      exact this
theorem zip_filter {col : List Nat} (p : Nat → Nat → Bool) : (col.zipIdx.filter fun q => p q.1 q.2).map (fun q => q.2) = (List.range col.length).filter fun i => p (col.getD i 0) i := by
  have e : col.zipIdx = (List.range col.length).map fun i => (col.getD i 0, i) := by
    apply List.ext_getElem?
    intro i
    rw [List.getElem?_zipIdx, List.getElem?_map]
    by_cases h : i < col.length
    · rw [List.getElem?_range h, List.getElem?_eq_getElem h, Option.map_some, Option.map_some, List.getD_eq_getElem?_getD, List.getElem?_eq_getElem h]
      simp
    · rw [List.getElem?_eq_none (by omega), List.getElem?_eq_none (by simp; omega)]
      rfl
  rw [e, List.filter_map, List.map_map]
  have : ((fun q : Nat × Nat => q.2) ∘ fun i => (col.getD i 0, i)) = id := rfl
  rw [this, List.map_id]
  rfl
theorem hS_lots_of : ∀ δ P, S_lots_of δ P → ArgOk 1 δ ∧ wb_lots_of (endsOf δ P) (δ ++ List.replicate (4 - 1) Sl.un) := by
  rintro δ P ⟨col, rfl, h8, hc, h⟩
  refine ⟨argD [colD col], ?_⟩
  unfold wb_lots_of colD
  walk_at "ds"
  have ei : (col.map fun n => PyData.int (n : Nat)) = (col.map fun n => ((n : Nat) : Int)).map PyData.int := by rw [List.map_map]; rfl
  rw [ei, Dw.ints_map]
  dsimp only
  refine ⟨by rw [List.length_map]; omega, fun ms p hm => ?_⟩
  have ems := firsts_of hc p hm
  subst ems
  rw [List.map_map]
  have hl : (firsts col).length ≤ 8 := by
    unfold firsts
    have := List.length_filter_le (fun f => decide (col.getD f 0 = f)) (List.range col.length)
    rw [List.length_range] at this
    omega
  refine ⟨⟨by rw [List.length_map]; omega, rfl⟩, ?_⟩
  rw [← ei]
  refine go_mapT (PyData.int ∘ fun n => ((n : Nat) : Int)) (fun f : Nat => lotI ((List.range col.length).filter fun i => decide (col.getD i 0 = f))) (firsts col) (fun f hf C C' hC => ?_) ?_
  · walk_at "ds"
    refine ifT rfl ?_
    refine ⟨⟨by rw [enumT, List.length_map]; simp; omega, rfl⟩, ?_⟩
    rw [enumT]
    refine go_filT _ (fun q : Nat × Nat => decide (q.1 = f)) (fun q : Nat × Nat => PyData.int (q.2 : Nat)) col.zipIdx [] (fun q hq C C' h1 h2 => ?_) ?_
    · walk_at "ds"
      refine ⟨rfl, ?_⟩
      refine eq_ok (k := decide (q.1 = f)) rfl (by show PyData.eqv (.int (q.1 : Nat)) (.int (f : Nat)) = _; rw [eqv_int]; exact decide_eq_decide.mpr (by omega)) ?_
      walk_at "ds"
      cases e : decide (q.1 = f) with
      | true => exact ifT rfl ⟨rfl, h1 e⟩
      | false => exact ifF rfl (h2 e)
    rw [List.nil_append]
    have ez : ((col.zipIdx.filter fun q : Nat × Nat => decide (q.1 = f)).map fun q : Nat × Nat => PyData.int (q.2 : Nat)) = ((List.range col.length).filter fun i => decide (col.getD i 0 = f)).map fun n => PyData.int (n : Nat) := by
      rw [← zip_filter (col := col) (fun x _ => decide (x = f)), List.map_map]
      rfl
    rw [ez]
    walk_at "ds"
    exact ⟨rfl, hC⟩
  walk_at "ds"
  have el : (firsts col).map (fun f : Nat => lotI ((List.range col.length).filter fun i => decide (col.getD i 0 = f))) = (lotsOf col).map lotI := by
    unfold lotsOf firsts
    rw [List.map_map]
    rfl
  rw [el]
  exact h
theorem JM.canon {m : Nat} {rs : List Cells} {rl : List Rule} {G : Marks} (h : JM m rs rl G) : ∀ col ∈ G, col.length = rs.length ∧ Canon col := fun col hcol => by
  have hl := h.shp.rows col hcol
  refine ⟨hl, ?_⟩
  obtain ⟨c, hc, rfl⟩ := List.getElem_of_mem hcol
  have hc' : c < m := by rw [← h.shp.cols]; exact hc
  intro i hi
  have := h.le c i hc' (by omega)
  unfold mrk at this
  rw [List.getD_eq_getElem?_getD (l := G), List.getElem?_eq_getElem hc] at this
  exact this
theorem hS_lots : ∀ δ P, S_lots δ P → ArgOk 2 δ ∧ wb_lots (endsOf δ P) (δ ++ List.replicate (3 - 2) Sl.un) := by
  rintro δ P ⟨m, rs, rl, rfl, ht, hr, h⟩
  refine ⟨argD [tabD m rs, rulesD rl], ?_⟩
  have m1 := ht.lo
  have m5 := ht.hi
  have n8 := ht.few
  unfold wb_lots
  refine seqT fun T hT => ?_
  walk_at "ds"
  refine ⟨rfl, m, rs, rfl, ht, ?_⟩
  walk_at "ds"
  subst hT
  refine seqT fun T hT => ?_
  walk_at "ds"
  unfold tabD
  refine tupix (z := .int m) rfl ?_
  walk_at "ds"
  refine ⟨rfl, m, rl, rfl, m1, m5, hr, ?_⟩
  walk_at "ds"
  subst hT
  walk_at "ds"
  refine ⟨rfl, m, rs, rl, rfl, ht, hr, fun G hG => ?_⟩
  have hcols := hG.shp.cols
  walk_at "ds"
  unfold marksD
  refine ⟨⟨by rw [List.length_map]; omega, rfl⟩, ?_⟩
  refine go_mapT colD lotsD G (fun col hcol C C' hC => ?_) ?_
  · obtain ⟨l1, l2⟩ := hG.canon col hcol
    walk_at "ds"
    refine ifT rfl ⟨rfl, col, rfl, by omega, l2, ?_⟩
    exact ⟨rfl, hC⟩
  walk_at "ds"
  exact h G hG
end B

namespace B
open PySem PySem.Spec PyProof.Rows L2 Dw
local macro_rules | `(tactic| walk_at "ds") => `(tactic| try dsimp only [wRet, wRetN, sPu, wThenX, wIfX, wRetX, wDropX, wSetX, wCallX, wCallP, uPu, wPu, uConsX, wRaise, wDc, wDcT, wDZ, wD1, wGet1, wGet2, wGetT, wThen, wIfS, wIf, wNotT, wTru, wB, w2, wV, wC, wCons, wNil, wCall, wCallO, wCallO1, endO, wCB, wLc, wSeq, wYes, wNext, wNever, wDrop, wSet, wAsg, wPair, wFor, wTup, wLst, wAndV, wOrV, wNotV, wNeg, wAndT, wOrT, wIsi, wChain, wSlice, wPart, wNo, wZip, wEnum, wRng1, wRng2, wLc2, wApp, wApp1, wPop, wPop1, wExt, wExt1, wSetI, wSetI1, wSetD, wIdx, wIdx1, wExtL, wExtL1, wLenM, wNotInM, wGetM, wPutM, wPutM1, wSetK, wTri, wForget, rCatTD, rCatLD, intsR, Option.map_some, bN, bTup, bCons, bNil, as_d, as_l, as_b, noB_d, noB_l, still_d, still_l, still_b, put_d, put_l, tru_bool, tru_tup, tru_lst, isT_tup, isI_int, isB_int, stillA_nil, stillA_cons, map0, map1, map2, map3, len_l, len_t, tup_l, tup_t, lst_l, lst_t, max_i, min_i, List.all_cons, List.all_nil, Bool.and_self, Bool.and_true, Bool.not_true, Bool.not_false, List.getElem?_cons_zero, List.getElem?_cons_succ, List.cons_append, List.nil_append, List.append_nil, List.reduceReplicate, Nat.reduceSub, Nat.sub_self, rI1, rI2, rAddD, rSubD, rMulD, rDivD, rModD, rPowD, rLtD, rLeD, rGtD, rGeD, List.set_cons_zero, List.set_cons_succ, List.set_nil, endsOf, outD, wipeD])
/-! ### the program's general filling -/
def keyN (p : Nat × Nat) : List Int := [((p.1 : Nat) : Int), ((p.2 : Nat) : Int)]
def withC (rs : List Cells) (kvs : List (List Int × Int)) : List Cells := rs.zipIdx.map fun p => p.1.zipIdx.map fun q => match lookI kvs (keyN (p.2, q.2)) with
  | some v => some v
  | none => q.1
def S_with_cells : WE := fun δ P => ∃ (m : Int) (rs : List Cells) (kvs : List (List Int × Int)), δ = [.d (tabD m rs), .d (dtD kvs)] ∧ rs.length ≤ 8 ∧ (∀ r ∈ rs, r.length ≤ 5) ∧ P (.d (tabD m (withC rs kvs))) δ
def freshA (rs : List Cells) (av : List Int) (k : Nat) : List Nat := (List.range k).filter fun x : Nat => !decide (((x : Nat) : Int) ∈ had rs ++ av)
def nthA (m : Nat) (rs : List Cells) (av : List Int) (j : Nat) : Int := (((freshA rs av (m * rs.length + av.length)).getD j 0 : Nat) : Int)
def genVA (m : Nat) (rs : List Cells) (G : Marks) (av : List Int) (i c : Nat) : Int := match kn rs G i c with
  | some v => v
  | none => nthA m rs av ((firL m rs G).idxOf (mrk G c i, c))
def genRowA (m : Nat) (rs : List Cells) (G : Marks) (av : List Int) (i : Nat) : Cells := (List.range m).map fun c => some (genVA m rs G av i c)
def genRowsA (m : Nat) (rs : List Cells) (G : Marks) (av : List Int) : List Cells := (List.range rs.length).map (genRowA m rs G av)
/-- what is to be avoided: nothing (the default), or a tuple of ints -/
def AvOk (x : PyData) (av : List Int) : Prop := av.length ≤ 5 ∧ ((x = e0D ∧ av = []) ∨ x = iT av)
def newKV (m : Nat) (rs : List Cells) (G : Marks) (av : List Int) : List (List Int × Int) := ((firL m rs G).map keyN).zip ((freshA rs av (m * rs.length + av.length)).map fun x : Nat => ((x : Nat) : Int))
def S_new_values : WE := fun δ P => ∃ (m : Int) (rs : List Cells) (G : Marks) (x : PyData) (av : List Int), δ = [.d (tabD m rs), .d (.list (marksD G)), .d x] ∧ TabOk m rs ∧ Shp m.toNat rs.length G ∧ AvOk x av ∧ P (.d (dtD (newKV m.toNat rs G av))) δ
def S_general_filling : WE := fun δ P => ∃ (m : Int) (rs : List Cells) (rl : List Rule) (G : Marks) (x : PyData) (av : List Int), δ = [.d (tabD m rs), .d (.list (marksD G)), .d x] ∧ TabOk m rs ∧ JM m.toNat rs rl G ∧ AvOk x av ∧ P (.d (tabD m (genRowsA m.toNat rs G av))) δ
/-- slots: 0 table, 1 cells, 2 row, 3 old, 4 column, 5 cell -/
def wb_with_cells : WS := (wRet (wTup (wCons (w2 rIxD (wV 0) (wC (.int 0))) (wCons (wCB rTupleD (wCons (wLc (wEnum (wCons (w2 rIxD (wV 0) (wC (.int 1))) wNil)) (bTup 2 (bCons (bN 2) (bCons (bN 3) bNil))) wYes (wCB rTupleD (wCons (wLc (wEnum (wCons (wV 3) wNil)) (bTup 2 (bCons (bN 4) (bCons (bN 5) bNil))) wYes (wGet2 (wV 1) (wTup (wCons (wV 2) (wCons (wV 4) wNil))) (wV 5)) [4, 5]) wNil)) [2, 3]) wNil)) wNil))))
/-- slots: 0 table, 1 marks, 2 avoided, 3 known, 4 firsts, 5 used, 6 unused, 7 many, 8 rows, 9 row, 10 column, 11 number, 12 cells, 13 cell -/
def wb_new_values : WS := (wThen (wAsg (wV 0) (bTup 2 (bCons (bN 7) (bCons (bN 8) bNil))))
      (wThen (wSet 3 (wCall S_known_rows (wCons (wV 0) (wCons (wV 1) wNil))))
      (wThen (wSetD 4 (wLc2 (wRng1 (wCons (wCB rLenD (wCons (wV 8) wNil)) wNil)) (bN 9) wYes (wRng1 (wCons (wV 7) wNil)) (bN 10) (wAndT (wB (w2 rEqT (w2 rIxD (w2 rIxD (wV 1) (wV 10)) (wV 9)) (wV 9))) (wB (w2 (rIsT false) (w2 rIxD (w2 rIxD (wV 3) (wV 9)) (wV 10)) (wC .none)))) (wTup (wCons (wV 9) (wCons (wV 10) wNil))) [9, 10] [10]))
      (wThen (wSet 5 (w2 rCatLD (wLc2 (wSeq (wV 8)) (bN 12) wYes (wSeq (wV 12)) (bN 13) wYes (wV 13) [12, 13] [13]) (wCB rListED (wCons (wV 2) wNil))))
      (wThen (wSetD 6 (wLc (wRng1 (wCons (w2 rAddD (w2 rMulD (wV 7) (wCB rLenD (wCons (wV 8) wNil))) (wCB rLenED (wCons (wV 2) wNil))) wNil)) (bN 11) (wB (w2 (rInT true) (wV 11) (wV 5))) (wV 11) [11]))
      (wRet (wDZ (wCons (wV 4) (wCons (wV 6) wNil)))))))))
/-- slots: 0 table, 1 marks, 2 avoided, 3 values, 4 known, 5 row, 6 column -/
def wb_general_filling : WS := (wThen (wSet 3 (wCall S_new_values (wCons (wV 0) (wCons (wV 1) (wCons (wV 2) wNil)))))
      (wThen (wSet 4 (wTup (wCons (w2 rIxD (wV 0) (wC (.int 0))) (wCons (wCall S_known_rows (wCons (wV 0) (wCons (wV 1) wNil))) wNil))))
      (wRet (wCall S_with_cells (wCons (wV 4) (wCons (wDcT (wSeq (wCall S_blanks (wCons (wV 4) wNil))) (bTup 2 (bCons (bN 5) (bCons (bN 6) bNil))) wYes (wTup (wCons (wV 5) (wCons (wV 6) wNil))) (wGetT (wV 3) (wTup (wCons (w2 rIxD (w2 rIxD (wV 1) (wV 6)) (wV 5)) (wCons (wV 6) wNil)))) [5, 6]) wNil))))))
theorem known_r {m : Nat} {rs : List Cells} {G : Marks} {i : Nat} {P : Rv → Prop} (hi : i < rs.length) (h : P (.d (rowD ((List.range m).map fun c => kn rs G i c)))) : Dw.rIxD (rowsD (knownOf m rs G)) (.int (i : Nat)) P := by
  refine tupix (atI_of (Int.natCast_nonneg _) ?_) h
  unfold knownOf
  rw [Int.toNat_natCast, List.getElem?_map, List.getElem?_map, List.getElem?_range hi]
  rfl
theorem known_c {m : Nat} {rs : List Cells} {G : Marks} {i c : Nat} {P : Rv → Prop} (hc : c < m) (h : P (.d (cellD (kn rs G i c)))) : Dw.rIxD (rowD ((List.range m).map fun c => kn rs G i c)) (.int (c : Nat)) P := by
  refine tupix (atI_of (Int.natCast_nonneg _) ?_) h
  rw [Int.toNat_natCast, List.getElem?_map, List.getElem?_map, List.getElem?_range hc]
  rfl
theorem mem_blanks0 {m : Int} {rs : List Cells} (ht : TabOk m rs) {p : Nat × Nat} (h : p ∈ blanksOf rs) : p.1 < rs.length ∧ p.2 < m.toNat ∧ cel rs p.1 p.2 = none := by
  unfold blanksOf at h
  obtain ⟨q, hq, h⟩ := List.mem_flatMap.mp h
  obtain ⟨s, hs, rfl⟩ := List.mem_map.mp h
  obtain ⟨hs, hb⟩ := List.mem_filter.mp hs
  obtain ⟨h1, h2⟩ := mem_zipI hq
  obtain ⟨x, i⟩ := s
  have := List.mem_zipIdx hs
  simp only [Nat.zero_add, Nat.sub_zero] at this
  have hx : q.1 ∈ rs := by
    rw [h2, List.getD_eq_getElem?_getD, List.getElem?_eq_getElem h1]
    exact List.getElem_mem _
  have l := (ht.rows _ hx).1
  refine ⟨h1, by show i < _; omega, ?_⟩
  show at_ (rs.getD q.2 []) ((i : Nat) : Int) = none
  rw [← h2]
  unfold at_
  rw [Int.toNat_natCast, List.getD_eq_getElem?_getD, List.getElem?_eq_getElem this.2.1, ← this.2.2]
  simpa using hb
theorem blanks_len0 {m : Int} {rs : List Cells} (ht : TabOk m rs) : (blanksOf rs).length ≤ 40 := by
  have m5 := ht.hi
  have n8 := ht.few
  have key : ∀ (l : List (Cells × Nat)), (∀ p ∈ l, p.1.length ≤ 5) → (l.flatMap fun p => (p.1.zipIdx.filter fun q => q.1.isNone).map fun q => (p.2, q.2)).length ≤ 5 * l.length := by
    intro l
    induction l with
    | nil => intro _; simp
    | cons p r ih =>
      intro h
      rw [List.flatMap_cons, List.length_append, List.length_cons, List.length_map]
      have h1 := ih fun q hq => h q (List.mem_cons_of_mem _ hq)
      have h2 := List.length_filter_le (fun q : Option Int × Nat => q.1.isNone) p.1.zipIdx
      have h3 := h p List.mem_cons_self
      rw [List.length_zipIdx] at h2
      omega
  have := key rs.zipIdx fun p hp => by
    obtain ⟨h1, h2⟩ := mem_zipI hp
    have hx : p.1 ∈ rs := by
      rw [h2, List.getD_eq_getElem?_getD, List.getElem?_eq_getElem h1]
      exact List.getElem_mem _
    have := (ht.rows _ hx).1
    omega
  rw [List.length_zipIdx] at this
  unfold blanksOf
  omega
theorem get2_ok {kvs : List (List Int × Int)} {p : Nat × Nat} {c : Option Int} : (match lookI kvs (keyN p) with | some v => PyData.int v | none => cellD c) = cellD (match lookI kvs (keyN p) with | some v => some v | none => c) := by
  cases lookI kvs (keyN p) <;> rfl
theorem hS_with_cells : ∀ δ P, S_with_cells δ P → ArgOk 2 δ ∧ wb_with_cells (endsOf δ P) (δ ++ List.replicate (6 - 2) Sl.un) := by
  rintro δ P ⟨m, rs, kvs, rfl, n8, r5, h⟩
  refine ⟨argD [tabD m rs, dtD kvs], ?_⟩
  unfold wb_with_cells
  walk_at "ds"
  refine tupix (xs := [.int m, rowsD rs]) (z := .int m) rfl ?_
  walk_at "ds"
  refine tupix (xs := [.int m, rowsD rs]) (z := rowsD rs) rfl ?_
  unfold rowsD
  walk_at "ds"
  rw [enumT]
  refine ⟨⟨by rw [List.length_map, List.length_zipIdx]; omega, rfl⟩, ?_⟩
  refine go_mapT _ (fun p : Cells × Nat => rowD (p.1.zipIdx.map fun q => match lookI kvs (keyN (p.2, q.2)) with | some v => some v | none => q.1)) rs.zipIdx (fun p hp C C' hC => ?_) ?_
  · have hr : p.1 ∈ rs := by
      obtain ⟨h1, h2⟩ := mem_zipI hp
      rw [h2, List.getD_eq_getElem?_getD, List.getElem?_eq_getElem h1]
      exact List.getElem_mem _
    have l5 := r5 _ hr
    walk_at "ds"
    refine ⟨rfl, ?_⟩
    refine ifT rfl ?_
    unfold rowD
    walk_at "ds"
    rw [enumT]
    refine ⟨⟨by rw [List.length_map, List.length_zipIdx]; omega, rfl⟩, ?_⟩
    refine go_mapT _ (fun q : Option Int × Nat => cellD (match lookI kvs (keyN (p.2, q.2)) with | some v => some v | none => q.1)) p.1.zipIdx (fun q hq C2 C' h2 => ?_) ?_
    · walk_at "ds"
      refine ⟨rfl, ?_⟩
      refine ifT rfl ?_
      refine ⟨kvs, rfl, ⟨rfl, by simp⟩, keyN (p.2, q.2), rfl, _, rfl, ?_⟩
      refine ⟨rfl, ?_⟩
      cases e : lookI kvs (keyN (p.2, q.2)) with
      | none => rw [e] at h2; exact h2
      | some v => rw [e] at h2; exact h2
    walk_at "ds"
    refine ⟨rfl, ?_⟩
    have e : (p.1.zipIdx.map fun q : Option Int × Nat => cellD (match lookI kvs (keyN (p.2, q.2)) with | some v => some v | none => q.1)) = (p.1.zipIdx.map fun q : Option Int × Nat => match lookI kvs (keyN (p.2, q.2)) with | some v => some v | none => q.1).map cellD := by
      rw [List.map_map]; rfl
    rw [e]
    exact hC
  walk_at "ds"
  refine ⟨⟨rfl, by simp⟩, ?_⟩
  have e : (rs.zipIdx.map fun p : Cells × Nat => rowD (p.1.zipIdx.map fun q => match lookI kvs (keyN (p.2, q.2)) with | some v => some v | none => q.1)) = (withC rs kvs).map rowD := by
    unfold withC
    rw [List.map_map]; rfl
  rw [e]
  exact h
theorem keyN_inj {p q : Nat × Nat} (h : keyN p = keyN q) : p = q := by
  obtain ⟨a, b⟩ := p
  obtain ⟨c, d⟩ := q
  unfold keyN at h
  simp only [List.cons.injEq, and_true] at h
  rw [Prod.mk.injEq]
  omega
/-- different keys: one behind the other -/
theorem fold_put : ∀ (l acc : List (List Int × Int)), (acc ++ l).Pairwise (fun a b => a.1 ≠ b.1) → l.foldl (fun acc p => putI acc p.1 p.2) acc = acc ++ l
  | [], acc, _ => by simp
  | p :: l, acc, h => by
    have e : putI acc p.1 p.2 = acc ++ [p] := by
      unfold putI
      rw [if_neg]
      intro z
      obtain ⟨q, hq, e⟩ := List.any_eq_true.mp z
      rw [List.pairwise_append] at h
      exact h.2.2 q hq p List.mem_cons_self (of_decide_eq_true e)
    show l.foldl _ (putI acc p.1 p.2) = _
    rw [e, fold_put l (acc ++ [p]) (by rw [List.append_assoc]; exact h), List.append_assoc]
    rfl
theorem zip_keys {m : Nat} {rs : List Cells} {G : Marks} (vs : List Int) : (((firL m rs G).map keyN).zip vs).Pairwise fun a b => a.1 ≠ b.1 := by
  have h : ((firL m rs G).map keyN).Pairwise (· ≠ ·) := List.Pairwise.map _ (fun a b hab e => hab (keyN_inj e)) (fir_nodup m rs G rs.length)
  generalize (firL m rs G).map keyN = ks at h
  induction ks generalizing vs with
  | nil => simp
  | cons k ks ih =>
    cases vs with
    | nil => simp
    | cons v vs =>
      rw [List.zip_cons_cons, List.pairwise_cons]
      obtain ⟨h1, h2⟩ := List.pairwise_cons.mp h
      exact ⟨fun p hp => h1 _ (List.of_mem_zip hp).1, ih vs h2⟩
theorem look_zip : ∀ (l : List (Nat × Nat)) (vs : List Int) (p : Nat × Nat), p ∈ l → lookI ((l.map keyN).zip vs) (keyN p) = vs[l.idxOf p]?
  | [], vs, p, h => by simp at h
  | q :: l, [], p, h => by simp [lookI]
  | q :: l, v :: vs, p, h => by
    unfold lookI
    rw [List.map_cons, List.zip_cons_cons, List.find?_cons, List.idxOf_cons]
    by_cases e : q = p
    · subst e
      simp
    · have n1 : ¬ (keyN q = keyN p) := fun z => e (keyN_inj z)
      have n2 : (q == p) = false := by simpa using e
      simp only [n1, decide_false, n2, cond_false]
      have := look_zip l vs p ((List.mem_cons.mp h).resolve_left fun z => e z.symm)
      unfold lookI at this
      rw [this]
      simp
theorem flat_cellsD (l : Cells) : (l.map cellD).all flat = true := by
  rw [List.all_eq_true]
  intro x hx
  obtain ⟨c, _, rfl⟩ := List.mem_map.mp hx
  cases c <;> rfl
theorem in_cells (v : Int) (l : Cells) : inD (.int v) (l.map cellD) = decide (v ∈ l.filterMap id) := by
  unfold inD
  rw [List.any_map]
  rw [Bool.eq_iff_iff, List.any_eq_true, decide_eq_true_eq, List.mem_filterMap]
  constructor
  · rintro ⟨c, hc, e⟩
    have e : PyData.eqv (cellD c) (cellD (some v)) = true := e
    rw [eqv_cell, decide_eq_true_eq] at e
    exact ⟨c, hc, e⟩
  · rintro ⟨c, hc, e⟩
    refine ⟨c, hc, ?_⟩
    show PyData.eqv (cellD c) (cellD (some v)) = true
    rw [eqv_cell, decide_eq_true_eq]
    exact e
theorem had_flat (rs : List Cells) : had rs = (rs.flatMap id).filterMap id := by
  unfold had
  rw [List.filterMap_flatMap]
  rfl
theorem flat_len5 : ∀ (rs : List Cells), (∀ r ∈ rs, r.length ≤ 5) → (rs.flatMap id).length ≤ 5 * rs.length
  | [], _ => by simp
  | r :: rs, h => by
    have := flat_len5 rs fun x hx => h x (List.mem_cons_of_mem _ hx)
    have h2 : (id r).length ≤ 5 := h r List.mem_cons_self
    rw [List.flatMap_cons, List.length_append, List.length_cons]
    omega
theorem hS_new_values : ∀ δ P, S_new_values δ P → ArgOk 3 δ ∧ wb_new_values (endsOf δ P) (δ ++ List.replicate (14 - 3) Sl.un) := by
  rintro δ P ⟨m, rs, G, xav, av, rfl, ht, hs, hav, h⟩
  refine ⟨argD [tabD m rs, .list (marksD G), xav], ?_⟩
  have a5 := hav.1
  have m1 := ht.lo
  have m5 := ht.hi
  have n8 := ht.few
  have r5 : ∀ r ∈ rs, r.length ≤ 5 := fun r hr => by have := (ht.rows r hr).1; omega
  unfold wb_new_values
  refine seqT fun T hT => ?_
  unfold tabD
  walk_at "ds"
  refine ⟨rfl, ?_⟩
  subst hT
  refine seqT fun T hT => ?_
  walk_at "ds"
  refine ⟨rfl, m, rs, G, rfl, ht, hs, ?_⟩
  walk_at "ds"
  subst hT
  refine seqT fun T hT => ?_
  unfold rowsD
  walk_at "ds"
  rw [List.length_map]
  refine ⟨⟨by omega, by omega⟩, ⟨by rw [rangeD_len]; omega, rfl⟩, ?_⟩
  rw [rangeD_eq]
  refine go2T _ (fun r : Nat => (firP rs G r m.toNat).map fun p => PyData.tuple ((keyN p).map PyData.int)) (List.range ((rs.length : Nat) : Int).toNat) [] (fun r hr acc C hC => ?_) ?_
  · have hr : r < rs.length := by simpa using hr
    rw [i0]
    walk_at "ds"
    refine ifT rfl ?_
    refine ⟨⟨by omega, by omega⟩, ⟨by rw [rangeD_len]; omega, rfl⟩, ?_⟩
    rw [rangeD_eq]
    refine go_filT _ (fun c : Nat => isF rs G r c) (fun c : Nat => PyData.tuple ((keyN (r, c)).map PyData.int)) (List.range m.toNat) acc (fun c hc C2 C' h1 h2 => ?_) ?_
    · have hc := List.mem_range.mp hc
      rw [i0]
      walk_at "ds"
      refine colix hs hc ?_
      walk_at "ds"
      refine mrkix hs hc hr ?_
      walk_at "ds"
      refine eq_ok (k := decide (mrk G c r = r)) rfl (by rw [eqv_int]; exact decide_eq_decide.mpr (by omega)) ?_
      walk_at "ds"
      unfold isF at h1 h2
      cases e1 : decide (mrk G c r = r) with
      | false =>
        rw [e1] at h2
        exact ifF rfl (ifF rfl (h2 rfl))
      | true =>
        rw [e1] at h1 h2
        refine ifT rfl ?_
        refine known_r hr ?_
        walk_at "ds"
        refine known_c hc ?_
        walk_at "ds"
        refine is_ok (k := (kn rs G r c).isNone) (cell_none _) ?_
        walk_at "ds"
        cases e2 : (kn rs G r c).isNone with
        | true =>
          rw [e2] at h1
          exact ifT rfl ⟨⟨rfl, by simp⟩, rfl, h1 rfl⟩
        | false =>
          rw [e2] at h2
          exact ifF rfl (h2 rfl)
    have e : ((List.range m.toNat).filter fun c => isF rs G r c).map (fun c : Nat => PyData.tuple ((keyN (r, c)).map PyData.int)) = (firP rs G r m.toNat).map fun p => PyData.tuple ((keyN p).map PyData.int) := by
      unfold firP
      rw [List.map_map]; rfl
    rw [e]
    exact hC
  have e1 : ((List.range ((rs.length : Nat) : Int).toNat).flatMap fun r : Nat => (firP rs G r m.toNat).map fun p => PyData.tuple ((keyN p).map PyData.int)) = ((firL m.toNat rs G).map keyN).map fun k => PyData.tuple (k.map PyData.int) := by
    unfold firL firB
    rw [Int.toNat_natCast, List.map_map, List.map_flatMap]
    rfl
  rw [List.nil_append, e1]
  walk_at "ds"
  subst hT
  refine seqT fun T hT => ?_
  walk_at "ds"
  refine ⟨⟨by rw [List.length_map]; omega, rfl⟩, ?_⟩
  refine go2T rowD (fun r => r.map cellD) rs [] (fun r hr acc C hC => ?_) ?_
  · have l5 := r5 r hr
    unfold rowD
    walk_at "ds"
    refine ifT rfl ?_
    refine ⟨⟨by rw [List.length_map]; omega, rfl⟩, ?_⟩
    refine go_mapA cellD cellD r acc (fun c hc C2 C' h2 => ?_) ?_
    · walk_at "ds"
      exact ifT rfl ⟨rfl, h2⟩
    exact hC
  have e2 : (rs.flatMap fun r => r.map cellD) = (rs.flatMap id).map cellD := by
    rw [List.map_flatMap]; rfl
  rw [List.nil_append, e2]
  walk_at "ds"
  have al : (av.map PyData.int) = (av.map some).map cellD := by rw [List.map_map]; rfl
  have flat := flat_len5 rs r5
  have got : ∀ C : Rv → Prop, C (.l (av.map PyData.int)) → rListED [xav] C := by
    intro C hC
    rcases hav.2 with ⟨rfl, rfl⟩ | rfl
    · exact ⟨rfl, hC⟩
    · exact hC
  have gotL : ∀ C : Rv → Prop, C (.d (.int (av.length : Nat))) → rLenED [xav] C := by
    intro C hC
    rcases hav.2 with ⟨rfl, rfl⟩ | rfl
    · exact ⟨rfl, hC⟩
    · show C (.d (.int (((av.map PyData.int).length : Nat) : Int)))
      rw [List.length_map]
      exact hC
  refine got _ ?_
  refine ⟨by rw [List.length_map, List.length_map]; omega, ?_⟩
  rw [al, ← List.map_append]
  subst hT
  refine seqT fun T hT => ?_
  walk_at "ds"
  rw [List.length_map]
  have prod : m * ((rs.length : Nat) : Int) = ((m.toNat * rs.length : Nat) : Int) := by
    rw [Int.natCast_mul, Int.toNat_of_nonneg (by omega)]
  have pl : m.toNat * rs.length ≤ 5 * 8 := Nat.mul_le_mul (by omega) n8
  rw [prod]
  refine ⟨.inl ⟨by omega, by omega⟩, ?_⟩
  refine gotL _ ?_
  walk_at "ds"
  have sum : ((m.toNat * rs.length : Nat) : Int) + ((av.length : Nat) : Int) = ((m.toNat * rs.length + av.length : Nat) : Int) := by omega
  rw [sum]
  have hadA : (rs.flatMap id ++ av.map some).filterMap id = had rs ++ av := by
    rw [List.filterMap_append, ← had_flat]
    congr 1
    rw [List.filterMap_map]
    exact List.filterMap_some
  refine ⟨⟨by omega, by omega⟩, ⟨by rw [rangeD_len]; omega, rfl⟩, ?_⟩
  rw [rangeD_eq]
  refine go_filT _ (fun x : Nat => !decide (((x : Nat) : Int) ∈ had rs ++ av)) (fun x : Nat => PyData.int ((x : Nat) : Int)) (List.range ((m.toNat * rs.length + av.length : Nat) : Int).toNat) [] (fun x hx C C' h1 h2 => ?_) ?_
  · rw [i0]
    walk_at "ds"
    refine ⟨⟨rfl, flat_cellsD _⟩, ?_⟩
    rw [in_cells, hadA]
    walk_at "ds"
    cases e : decide (((x : Nat) : Int) ∈ had rs ++ av) with
    | true =>
      rw [e] at h2
      exact ifF rfl (h2 rfl)
    | false =>
      rw [e] at h1
      exact ifT rfl ⟨rfl, h1 rfl⟩
  have e3 : (((List.range ((m.toNat * rs.length + av.length : Nat) : Int).toNat).filter fun x : Nat => !decide (((x : Nat) : Int) ∈ had rs ++ av)).map fun x : Nat => PyData.int ((x : Nat) : Int)) = ((freshA rs av (m.toNat * rs.length + av.length)).map fun x : Nat => ((x : Nat) : Int)).map PyData.int := by
    rw [Int.toNat_natCast, List.map_map]; rfl
  rw [List.nil_append, e3]
  walk_at "ds"
  subst hT
  walk_at "ds"
  refine ⟨rfl, (firL m.toNat rs G).map keyN, (freshA rs av (m.toNat * rs.length + av.length)).map fun x : Nat => ((x : Nat) : Int), rfl, ?_, ?_⟩
  · rw [List.length_map]
    have := fir_len (G := G) ht
    omega
  · rw [fold_put _ [] (by rw [List.nil_append]; exact zip_keys _), List.nil_append]
    exact h
theorem known_ok {m : Int} {rs : List Cells} {G : Marks} (ht : TabOk m rs) : TabOk m (knownOf m.toNat rs G) := by
  have m1 := ht.lo
  refine ⟨ht.lo, ht.hi, by unfold knownOf; rw [List.length_map, List.length_range]; exact ht.few, fun r hr => ?_⟩
  unfold knownOf at hr
  obtain ⟨i, _, rfl⟩ := List.mem_map.mp hr
  refine ⟨by rw [List.length_map, List.length_range]; omega, fun c hc => ?_⟩
  obtain ⟨c', hc', rfl⟩ := List.mem_map.mp hc
  exact kn_ok0 ht (List.mem_range.mp hc')
theorem cel_known {m : Nat} {rs : List Cells} {G : Marks} {i c : Nat} (hi : i < rs.length) (hc : c < m) : cel (knownOf m rs G) i c = kn rs G i c := by
  unfold cel at_ knownOf
  rw [Int.toNat_natCast, List.getD_eq_getElem?_getD (l := List.map _ _), List.getElem?_map, List.getElem?_range hi]
  simp only [Option.map_some, Option.getD_some]
  rw [List.getD_eq_getElem?_getD, List.getElem?_map, List.getElem?_range hc]
  rfl
theorem fresh_cntA (L : List Int) (k : Nat) : k ≤ ((List.range k).filter fun x : Nat => !decide (((x : Nat) : Int) ∈ L)).length + L.length := by
  have h1 := few_in L (List.range k) List.nodup_range
  have h2 : ((List.range k).filter fun x => decide (((x : Nat) : Int) ∈ L)).length + ((List.range k).filter fun x : Nat => !decide (((x : Nat) : Int) ∈ L)).length = k := by
    have : ∀ l : List Nat, (l.filter fun x => decide (((x : Nat) : Int) ∈ L)).length + (l.filter fun x : Nat => !decide (((x : Nat) : Int) ∈ L)).length = l.length := by
      intro l
      induction l with
      | nil => rfl
      | cons x l ih =>
        rw [List.filter_cons, List.filter_cons, List.length_cons]
        cases decide (((x : Nat) : Int) ∈ L) with
        | true => simp only [Bool.not_true, Bool.false_eq_true, if_false, if_true, List.length_cons]; omega
        | false => simp only [Bool.not_false, Bool.false_eq_true, if_false, if_true, List.length_cons]; omega
    rw [this, List.length_range]
  omega
theorem freshA_len {m : Int} {rs : List Cells} {G : Marks} (ht : TabOk m rs) (av : List Int) : (firL m.toNat rs G).length ≤ (freshA rs av (m.toNat * rs.length + av.length)).length := by
  have h1 := fir_len (G := G) ht
  have h2 := fresh_cntA (had rs ++ av) (m.toNat * rs.length + av.length)
  rw [List.length_append] at h2
  unfold freshA
  omega
theorem new_look {m : Int} {rs : List Cells} {rl : List Rule} {G : Marks} {av : List Int} (ht : TabOk m rs) (hG : JM m.toNat rs rl G) {i c : Nat} (hi : i < rs.length) (hc : c < m.toNat) (e : kn rs G i c = none) : lookI (newKV m.toNat rs G av) (keyN (mrk G c i, c)) = some (genVA m.toNat rs G av i c) := by
  have hle := hG.le c i hc hi
  have same : kn rs G (mrk G c i) c = none := by
    rw [← e]
    unfold kn
    rw [hle.2]
  have inn : (mrk G c i, c) ∈ firL m.toNat rs G := mem_firB.mpr ⟨by omega, hc, by unfold isF; rw [same, decide_eq_true hle.2]; rfl⟩
  unfold newKV
  rw [look_zip _ _ _ inn, List.getElem?_map]
  have il : (firL m.toNat rs G).idxOf (mrk G c i, c) < (firL m.toNat rs G).length := List.idxOf_lt_length_of_mem inn
  have lt : (firL m.toNat rs G).idxOf (mrk G c i, c) < (freshA rs av (m.toNat * rs.length + av.length)).length := Nat.lt_of_lt_of_le il (freshA_len ht av)
  rw [List.getElem?_eq_getElem lt]
  unfold genVA nthA
  rw [e]
  simp only [Option.map_some]
  rw [List.getD_eq_getElem?_getD, List.getElem?_eq_getElem lt]
  rfl
/-- nothing avoided: the general filling -/
theorem genA_nil {m : Int} {rs : List Cells} {rl : List Rule} {G : Marks} (ht : TabOk m rs) (hG : JM m.toNat rs rl G) : genRowsA m.toNat rs G [] = genRows m.toNat rs G := by
  unfold genRowsA genRows
  apply List.map_congr_left
  intro i hi
  have hi := List.mem_range.mp hi
  unfold genRowA genRow
  apply List.map_congr_left
  intro c hc
  have hc := List.mem_range.mp hc
  congr 1
  unfold genVA genV
  cases e : kn rs G i c with
  | some v => rfl
  | none =>
    have hle := hG.le c i hc hi
    have same : kn rs G (mrk G c i) c = none := by
      rw [← e]
      unfold kn
      rw [hle.2]
    have inn : (mrk G c i, c) ∈ firL m.toNat rs G := mem_firB.mpr ⟨by omega, hc, by unfold isF; rw [same, decide_eq_true hle.2]; rfl⟩
    have il : (firL m.toNat rs G).idxOf (mrk G c i, c) < (firL m.toNat rs G).length := List.idxOf_lt_length_of_mem inn
    have h1 := fir_len (G := G) ht
    have h2 := fresh_cnt rs (m.toNat * rs.length)
    have pl : m.toNat * rs.length ≤ 5 * 8 := Nat.mul_le_mul (by have := ht.hi; omega) ht.few
    have lt : (firL m.toNat rs G).idxOf (mrk G c i, c) < (freshL rs (m.toNat * rs.length)).length := by omega
    have fp := (fresh_pre (k := m.toNat * rs.length) (by omega) lt).1
    have ef : freshA rs [] (m.toNat * rs.length + ([] : List Int).length) = freshL rs (m.toNat * rs.length) := by
      unfold freshA freshL
      rw [List.append_nil]
      rfl
    unfold nthA nthF
    rw [ef, fp]
/-- the dict of a comprehension over places -/
theorem goT_fold {b : WB} {t : WT} {wk wv : WE} {vs : List Nat} {kd : List (List Int × Int) → Dl → Prop} {δ : Dl} {α : Type} (h : α → PyData) (f : List (List Int × Int) → α → List (List Int × Int)) : ∀ (xs : List α) (acc : List (List Int × Int)),
    (∀ x ∈ xs, ∀ (acc : List (List Int × Int)) (C : List (List Int × Int) → Dl → Prop), C (f acc x) δ → b (h x) δ fun δ1 => t δ1 fun c δ2 => if c = true then wk δ2 fun y δ3 => wv δ3 fun z δ4 => ∃ (ks : List Int) (j : Int), y = .d (.tuple (ks.map PyData.int)) ∧ z = .d (.int j) ∧ C (putI acc ks j) (wipeD δ4 vs) else C acc (wipeD δ2 vs)) → kd (xs.foldl f acc) δ → wGoT b t wk wv vs kd (xs.map h) acc δ
  | [], acc, _, q => q
  | x :: r, acc, ht, q => ht x List.mem_cons_self acc (fun acc' δ' => wGoT b t wk wv vs kd (r.map h) acc' δ') (goT_fold h f r (f acc x) (fun y hy => ht y (List.mem_cons_of_mem _ hy)) q)
theorem look_fold (g : Nat × Nat → Int) (p : Nat × Nat) : ∀ (l : List (Nat × Nat)) (acc : List (List Int × Int)), lookI (l.foldl (fun acc q => putI acc (keyN q) (g q)) acc) (keyN p) = if p ∈ l then some (g p) else lookI acc (keyN p)
  | [], acc => by simp
  | q :: l, acc => by
    rw [List.foldl_cons, look_fold g p l, look_put]
    by_cases h : p ∈ l
    · rw [if_pos h, if_pos (List.mem_cons_of_mem _ h)]
    · rw [if_neg h]
      by_cases e : p = q
      · subst e
        simp
      · rw [if_neg fun z => e (keyN_inj z), if_neg (by simp [e, h])]
theorem blanks_mem {m : Int} {rs : List Cells} (ht : TabOk m rs) {i c : Nat} (hi : i < rs.length) (hc : c < m.toNat) (e : cel rs i c = none) : (i, c) ∈ blanksOf rs := by
  unfold blanksOf
  rw [List.mem_flatMap]
  refine ⟨_, zipI_mem hi, List.mem_map.mpr ⟨(none, c), List.mem_filter.mpr ⟨?_, rfl⟩, rfl⟩⟩
  obtain ⟨h, e2⟩ := cel_at ht hi hc
  rw [List.mem_iff_getElem?]
  refine ⟨c, ?_⟩
  rw [List.getElem?_zipIdx, List.getElem?_eq_getElem h, ← e2, e]
  simp
theorem withC_at {m : Int} {rs : List Cells} (ht : TabOk m rs) (kvs : List (List Int × Int)) : withC rs kvs = (List.range rs.length).map fun i => (List.range m.toNat).map fun c => match lookI kvs (keyN (i, c)) with | some v => some v | none => cel rs i c := by
  unfold withC
  apply List.ext_getElem?
  intro i
  rw [List.getElem?_map, List.getElem?_map, List.getElem?_zipIdx]
  by_cases hi : i < rs.length
  · rw [List.getElem?_range hi, List.getElem?_eq_getElem hi]
    simp only [Option.map_some, Nat.zero_add]
    congr 1
    have hx : rs[i] = rs.getD i [] := by
      rw [List.getD_eq_getElem?_getD, List.getElem?_eq_getElem hi]; rfl
    rw [hx, row_range ht hi]
    apply List.ext_getElem?
    intro c
    rw [List.getElem?_map, List.getElem?_map, List.getElem?_zipIdx, List.getElem?_map]
    by_cases hc : c < m.toNat
    · rw [List.getElem?_range hc]
      simp
    · rw [List.getElem?_eq_none (by rw [List.length_range]; omega)]
      rfl
  · rw [List.getElem?_eq_none (by omega), List.getElem?_eq_none (by rw [List.length_range]; omega)]
    rfl
theorem hS_general_filling : ∀ δ P, S_general_filling δ P → ArgOk 3 δ ∧ wb_general_filling (endsOf δ P) (δ ++ List.replicate (7 - 3) Sl.un) := by
  rintro δ P ⟨m, rs, rl, G, xav, av, rfl, ht, hG, hav, h⟩
  refine ⟨argD [tabD m rs, .list (marksD G), xav], ?_⟩
  have hs := hG.shp
  have kok := known_ok (G := G) ht
  have kl : (knownOf m.toNat rs G).length = rs.length := by unfold knownOf; simp
  unfold wb_general_filling
  refine seqT fun T hT => ?_
  walk_at "ds"
  refine ⟨rfl, m, rs, G, xav, av, rfl, ht, hs, hav, ?_⟩
  walk_at "ds"
  subst hT
  refine seqT fun T hT => ?_
  walk_at "ds"
  refine tupix (xs := [.int m, rowsD rs]) (z := .int m) rfl ?_
  refine ⟨rfl, m, rs, G, rfl, ht, hs, ?_⟩
  refine ⟨⟨rfl, by simp⟩, ?_⟩
  subst hT
  walk_at "ds"
  refine ⟨rfl, m, knownOf m.toNat rs G, rfl, kok, ?_⟩
  unfold pairsD
  walk_at "ds"
  have bl := blanks_len0 kok
  refine ⟨⟨by rw [List.length_map]; omega, rfl⟩, ?_⟩
  refine goT_fold pairD (fun acc (p : Nat × Nat) => putI acc (keyN p) (genVA m.toNat rs G av p.1 p.2)) (blanksOf (knownOf m.toNat rs G)) [] (fun p hp acc C hC => ?_) ?_
  · obtain ⟨p1, p2, p3⟩ := mem_blanks0 kok hp
    rw [kl] at p1
    rw [cel_known p1 p2] at p3
    unfold pairD
    walk_at "ds"
    refine ⟨rfl, ?_⟩
    refine ifT rfl ?_
    refine ⟨⟨rfl, by simp⟩, ?_⟩
    refine colix hs p2 ?_
    walk_at "ds"
    refine mrkix hs p2 p1 ?_
    refine ⟨⟨rfl, by simp⟩, _, keyN (mrk G p.2 p.1, p.2), _, rfl, rfl, new_look ht hG p1 p2 p3, keyN p, _, rfl, rfl, hC⟩
  walk_at "ds"
  have r5 : ∀ r ∈ knownOf m.toNat rs G, r.length ≤ 5 := fun r hr => by have := (kok.rows r hr).1; have := ht.hi; omega
  refine ⟨rfl, m, knownOf m.toNat rs G, _, rfl, by rw [kl]; exact ht.few, r5, ?_⟩
  have e : withC (knownOf m.toNat rs G) ((blanksOf (knownOf m.toNat rs G)).foldl (fun acc (p : Nat × Nat) => putI acc (keyN p) (genVA m.toNat rs G av p.1 p.2)) []) = genRowsA m.toNat rs G av := by
    rw [withC_at kok, kl]
    unfold genRowsA genRowA
    apply List.map_congr_left
    intro i hi
    have hi := List.mem_range.mp hi
    apply List.map_congr_left
    intro c hc
    have hc := List.mem_range.mp hc
    rw [look_fold (fun p => genVA m.toNat rs G av p.1 p.2) (i, c), cel_known hi hc]
    cases ek : kn rs G i c with
    | none => rw [if_pos (blanks_mem kok (by rw [kl]; exact hi) hc (by rw [cel_known hi hc]; exact ek))]
    | some v =>
      have : (i, c) ∉ blanksOf (knownOf m.toNat rs G) := fun z => by
        have := (mem_blanks0 kok z).2.2
        rw [show cel (knownOf m.toNat rs G) (i, c).1 (i, c).2 = kn rs G i c from cel_known hi hc, ek] at this
        cases this
      rw [if_neg this]
      unfold genVA
      rw [ek]
      rfl
  rw [e]
  exact h
end B

namespace B
open PySem PySem.Spec PyProof.Rows L2 Dw
local macro_rules | `(tactic| walk_at "ds") => `(tactic| try dsimp only [wRet, wRetN, sPu, wThenX, wIfX, wRetX, wDropX, wSetX, wCallX, wCallP, uPu, wPu, uConsX, wRaise, wDc, wDcT, wDZ, wD1, wGet1, wGet2, wGetT, wThen, wIfS, wIf, wNotT, wTru, wB, w2, wV, wC, wCons, wNil, wCall, wCallO, wCallO1, endO, wCB, wLc, wSeq, wYes, wNext, wNever, wDrop, wSet, wAsg, wPair, wFor, wTup, wLst, wAndV, wOrV, wNotV, wNeg, wAndT, wOrT, wIsi, wChain, wSlice, wPart, wNo, wZip, wEnum, wRng1, wRng2, wLc2, wApp, wApp1, wPop, wPop1, wExt, wExt1, wSetI, wSetI1, wSetD, wIdx, wIdx1, wExtL, wExtL1, wLenM, wNotInM, wGetM, wPutM, wPutM1, wSetK, wTri, wForget, rCatTD, rCatLD, intsR, Option.map_some, bN, bTup, bCons, bNil, as_d, as_l, as_b, noB_d, noB_l, still_d, still_l, still_b, put_d, put_l, tru_bool, tru_tup, tru_lst, isT_tup, isI_int, isB_int, stillA_nil, stillA_cons, map0, map1, map2, map3, len_l, len_t, tup_l, tup_t, lst_l, lst_t, max_i, min_i, List.all_cons, List.all_nil, Bool.and_self, Bool.and_true, Bool.not_true, Bool.not_false, List.getElem?_cons_zero, List.getElem?_cons_succ, List.cons_append, List.nil_append, List.append_nil, List.reduceReplicate, Nat.reduceSub, Nat.sub_self, rI1, rI2, rAddD, rSubD, rMulD, rDivD, rModD, rPowD, rLtD, rLeD, rGtD, rGeD, List.set_cons_zero, List.set_cons_succ, List.set_nil, endsOf, outD, wipeD])
/-! ### values written -/
def setC (rs : List Cells) (i c : Nat) (x : Option Int) : List Cells := rs.set i ((rs.getD i []).set c x)
/-- no two different values are joined -/
def NoCl (m : Nat) (rs : List Cells) (rl : List Rule) : Prop := ∀ c i j v u, Jn m rs rl c i j → cel rs i c = some v → cel rs j c = some u → v = u
open Classical in
noncomputable def hasF (m : Nat) (rs : List Cells) (rl : List Rule) : Bool := decide (NoCl m rs rl)
noncomputable def canB (m : Nat) (rs : List Cells) (rl : List Rule) (i c : Nat) (v : Int) : Bool := ((cel rs i c).isNone || decide (cel rs i c = some v)) && hasF m (setC rs i c (some v)) rl
def wvD (m : Int) (rs : List Cells) (i c : Nat) (v : Int) : PyData := if ((cel rs i c).isNone || decide (cel rs i c = some v)) = true then tabD m (setC rs i c (some v)) else .none
/-- the values of a column, ascending -/
def ColV (rs : List Cells) (c : Nat) (ms : List Int) : Prop := ms.Pairwise (· < ·) ∧ ∀ k, k ∈ ms ↔ ∃ i, i < rs.length ∧ cel rs i c = some k
def S_is_place : WE := fun δ P => ∃ (m : Int) (rs : List Cells) (i c : Nat), δ = [.d (tabD m rs), .d (pairD (i, c))] ∧ i < rs.length ∧ (c : Int) < m ∧ P (.d (.bool true)) δ
def S_need_place : WE := fun δ P => ∃ (m : Int) (rs : List Cells) (i c : Nat), δ = [.d (tabD m rs), .d (pairD (i, c))] ∧ i < rs.length ∧ (c : Int) < m ∧ P (.d .none) δ
def S_has_filling : WE := fun δ P => ∃ m rs rl, δ = [.d (tabD m rs), .d (rulesD rl)] ∧ TabOk m rs ∧ RulesOk m rl ∧ P (.d (.bool (hasF m.toNat rs rl))) δ
def S_filling_marks : WE := fun δ P => ∃ m rs rl, δ = [.d (tabD m rs), .d (rulesD rl)] ∧ TabOk m rs ∧ RulesOk m rl ∧ hasF m.toNat rs rl = true ∧ ∀ G, JM m.toNat rs rl G → clash rs G = false → P (.d (.list (marksD G))) δ
def S_with_value : WE := fun δ P => ∃ (m : Int) (rs : List Cells) (i c : Nat) (v : Int), δ = [.d (tabD m rs), .d (pairD (i, c)), .d (.int v)] ∧ TabOk m rs ∧ i < rs.length ∧ c < m.toNat ∧ P (.d (wvD m rs i c v)) δ
def S_can_be : WE := fun δ P => ∃ (m : Int) (rs : List Cells) (rl : List Rule) (i c : Nat) (v : Int), δ = [.d (tabD m rs), .d (rulesD rl), .d (pairD (i, c)), .d (.int v)] ∧ TabOk m rs ∧ RulesOk m rl ∧ i < rs.length ∧ c < m.toNat ∧ 0 ≤ v ∧ v ≤ 9999 ∧ P (.d (.bool (canB m.toNat rs rl i c v))) δ
def S_column_values : WE := fun δ P => ∃ (m : Int) (rs : List Cells) (c : Nat), δ = [.d (tabD m rs), .d (.int c)] ∧ TabOk m rs ∧ c < m.toNat ∧ ∀ ms, ColV rs c ms → P (.l (ms.map PyData.int)) δ
def S_law_has_filling : WE := fun δ P => ∃ m rs rl, δ = [.d (.int m), .d (rowsD rs), .d (rulesD rl)] ∧ TabOk m rs ∧ RulesOk m rl ∧ P (.d (.bool (hasF m.toNat rs rl))) δ
def S_law_with : WE := fun δ P => ∃ (m : Int) (rs : List Cells) (i c : Nat) (x : Option Int), δ = [.d (rowsD rs), .d (.int i), .d (.int c), .d (cellD x)] ∧ TabOk m rs ∧ i < rs.length ∧ c < m.toNat ∧ P (.d (rowsD (setC rs i c x))) δ
/-- slots: 0 table, 1 thing, 2 row, 3 column -/
def wb_is_place : WS := (wThen (wIfS (wOrT (wNotT (wTru (wIsi isTupD (wV 1)))) (wB (w2 rNeT (wCB rLenD (wCons (wV 1) wNil)) (wC (.int 2))))) (wRet (wC (.bool false))) wNext)
      (wThen (wAsg (wV 1) (bTup 2 (bCons (bN 2) (bCons (bN 3) bNil))))
      (wRet (wAndV (wCall S_is_number (wCons (wV 2) (wCons (wC (.int 0)) (wCons (w2 rSubD (wCB rLenD (wCons (w2 rIxD (wV 0) (wC (.int 1))) wNil)) (wC (.int 1))) wNil)))) (wCall S_is_column (wCons (w2 rIxD (wV 0) (wC (.int 0))) (wCons (wV 3) wNil)))))))
/-- slots: 0 table, 1 thing -/
def wb_need_place : WS := (wIfS (wNotT (wTru (wCall S_is_place (wCons (wV 0) (wCons (wV 1) wNil))))) wNever wNext)
/-- slots: 0 table, 1 rules -/
def wb_has_filling : WS := (wRet (wNotV (wCall S_has_clash (wCons (wV 0) (wCons (wCall S_joined_marks (wCons (wV 0) (wCons (wV 1) wNil))) wNil)))))
/-- slots: 0 table, 1 rules, 2 marks -/
def wb_filling_marks : WS := (wThen (wSetD 2 (wCall S_joined_marks (wCons (wV 0) (wCons (wV 1) wNil))))
      (wThen (wIfS (wTru (wCall S_has_clash (wCons (wV 0) (wCons (wV 2) wNil)))) wNever wNext)
      (wRet (wV 2))))
/-- slots: 0 table, 1 place, 2 value, 3 cell, 4 row, 5 column -/
def wb_with_value : WS := (wThen (wAsg (wV 1) (bTup 2 (bCons (bN 4) (bCons (bN 5) bNil))))
      (wThen (wSet 3 (w2 rIxD (w2 rIxD (w2 rIxD (wV 0) (wC (.int 1))) (wV 4)) (wV 5)))
      (wThen (wIfS (wAndT (wB (w2 (rIsT true) (wV 3) (wC .none))) (wB (w2 rNeT (wV 3) (wV 2)))) (wRet (wC .none)) wNext)
      (wRet (wCall S_with_cells (wCons (wV 0) (wCons (wD1 (wV 1) (wV 2)) wNil)))))))
/-- slots: 0 table, 1 rules, 2 place, 3 value, 4 written -/
def wb_can_be : WS := (wThen (wSet 4 (wCall S_with_value (wCons (wV 0) (wCons (wV 2) (wCons (wV 3) wNil)))))
      (wRet (wAndV (w2 (rIsT true) (wV 4) (wC .none)) (wCall S_has_filling (wCons (wV 4) (wCons (wV 1) wNil))))))
/-- slots: 0 table, 1 column, 2 cells -/
def wb_column_values : WS := (wRet (wSortSetG (wLc (wSeq (w2 rIxD (wV 0) (wC (.int 1)))) (bN 2) (wB (w2 (rIsT true) (w2 rIxD (wV 2) (wV 1)) (wC .none))) (w2 rIxD (wV 2) (wV 1)) [2])))
/-- slots: 0 law_many, 1 law_rows_here, 2 law_rules_here -/
def wb_law_has_filling : WS := (wRet (wNotV (wCall S_law_is_clash (wCons (wV 1) (wCons (wCall S_law_joined (wCons (wV 0) (wCons (wV 1) (wCons (wV 2) wNil)))) wNil)))))
/-- slots: 0 law_rows_here, 1 law_at, 2 law_column, 3 law_cell, 4 law_row -/
def wb_law_with : WS := (wThen (wSet 4 (w2 rCatTD (w2 rCatTD (wSlice (w2 rIxD (wV 0) (wV 1)) wNo (wPart (wV 2))) (wTup (wCons (wV 3) wNil))) (wSlice (w2 rIxD (wV 0) (wV 1)) (wPart (w2 rAddD (wV 2) (wC (.int 1)))) wNo)))
      (wRet (w2 rCatTD (w2 rCatTD (wSlice (wV 0) wNo (wPart (wV 1))) (wTup (wCons (wV 4) wNil))) (wSlice (wV 0) (wPart (w2 rAddD (wV 1) (wC (.int 1)))) wNo))))
theorem jn_in {m : Nat} {rs : List Cells} {rl : List Rule} {c i j : Nat} (h : Jn m rs rl c i j) : c < m ∧ i < rs.length ∧ j < rs.length := by
  induction h with
  | refl h1 h2 => exact ⟨h1, h2, h2⟩
  | val h1 h2 h3 _ _ => exact ⟨h1, h2, h3⟩
  | symm _ ih => exact ⟨ih.1, ih.2.2, ih.2.1⟩
  | trans _ _ a b => exact ⟨a.1, a.2.1, b.2.2⟩
  | step _ h1 h2 h3 _ _ => exact ⟨h1, h2, h3⟩
theorem noCl_iff {m : Nat} {rs : List Cells} {rl : List Rule} {G : Marks} (hG : JM m rs rl G) : clash rs G = false ↔ NoCl m rs rl := by
  have key : clash rs G = true ↔ ¬ NoCl m rs rl := by
    rw [clash_iff hG.shp]
    constructor
    · rintro ⟨c, i, j, v, u, hc, hi, hj, e, e1, e2, ne⟩ h
      exact ne (h c i j v u ((hG.iff c i j hc hi hj).mp e) e1 e2)
    · intro h
      refine Classical.byContradiction fun z => h fun c i j v u jn e1 e2 => Decidable.byContradiction fun ne => ?_
      obtain ⟨hc, hi, hj⟩ := jn_in jn
      exact z ⟨c, i, j, v, u, hc, hi, hj, (hG.iff c i j hc hi hj).mpr jn, e1, e2, ne⟩
  cases e : clash rs G with
  | true =>
    rw [e] at key
    exact ⟨fun z => (nomatch z), fun z => absurd z (key.mp rfl)⟩
  | false =>
    rw [e] at key
    exact ⟨fun _ => Classical.byContradiction fun z => (nomatch key.mpr z), fun _ => rfl⟩
open Classical in
theorem hasF_eq {m : Nat} {rs : List Cells} {rl : List Rule} {G : Marks} (hG : JM m rs rl G) : hasF m rs rl = !clash rs G := by
  unfold hasF
  cases e : clash rs G with
  | false => exact decide_eq_true ((noCl_iff hG).mp e)
  | true =>
    refine decide_eq_false fun z => ?_
    rw [(noCl_iff hG).mpr z] at e
    cases e
theorem setC_len {rs : List Cells} {i c : Nat} {x : Option Int} : (setC rs i c x).length = rs.length := by unfold setC; rw [List.length_set]
theorem cel_set {m : Int} {rs : List Cells} (ht : TabOk m rs) {i c : Nat} {x : Option Int} (hi : i < rs.length) (hc : c < m.toNat) (a b : Nat) : cel (setC rs i c x) a b = if a = i ∧ b = c then x else cel rs a b := by
  have e : rs.getD i [] ∈ rs := by
    rw [List.getD_eq_getElem?_getD, List.getElem?_eq_getElem hi]
    exact List.getElem_mem _
  have l := (ht.rows _ e).1
  unfold cel setC at_
  rw [Int.toNat_natCast]
  by_cases h : a = i
  · subst h
    rw [List.getD_eq_getElem?_getD (l := rs.set a _), List.getElem?_set_self hi]
    simp only [Option.getD_some]
    rw [List.getD_eq_getElem?_getD, List.getElem?_set]
    by_cases h2 : b = c
    · subst h2
      rw [if_pos rfl, if_pos (by omega)]
      simp
    · rw [if_neg (fun z => h2 z.symm), if_neg fun z => h2 z.2, ← List.getD_eq_getElem?_getD]
  · rw [if_neg fun z => h z.1, List.getD_eq_getElem?_getD (l := rs.set i _), List.getElem?_set_ne (fun z => h z.symm), ← List.getD_eq_getElem?_getD]
theorem set_ok {m : Int} {rs : List Cells} (ht : TabOk m rs) {i c : Nat} {x : Option Int} (hi : i < rs.length) (hx : CellOk x) : TabOk m (setC rs i c x) := by
  have e : rs.getD i [] ∈ rs := by
    rw [List.getD_eq_getElem?_getD, List.getElem?_eq_getElem hi]
    exact List.getElem_mem _
  refine ⟨ht.lo, ht.hi, by rw [setC_len]; exact ht.few, fun r hr => ?_⟩
  unfold setC at hr
  rcases List.mem_or_eq_of_mem_set hr with q | q
  · exact ht.rows r q
  · rw [q]
    refine ⟨by rw [List.length_set]; exact (ht.rows _ e).1, fun y hy => ?_⟩
    rcases List.mem_or_eq_of_mem_set hy with w | w
    · exact (ht.rows _ e).2 y w
    · rw [w]; exact hx
theorem tab_ext {m : Int} {rs ws : List Cells} (ht : TabOk m rs) (hw : TabOk m ws) (l : rs.length = ws.length) (h : ∀ i c, i < rs.length → c < m.toNat → cel rs i c = cel ws i c) : rs = ws := by
  rw [rows_range rs, rows_range ws, ← l]
  apply List.map_congr_left
  intro i hi
  have hi := List.mem_range.mp hi
  rw [row_range ht hi, row_range hw (by omega)]
  apply List.map_congr_left
  intro c hc
  exact h i c hi (List.mem_range.mp hc)
theorem with_one {m : Int} {rs : List Cells} (ht : TabOk m rs) {i c : Nat} {v : Int} (hi : i < rs.length) (hc : c < m.toNat) : withC rs [(keyN (i, c), v)] = setC rs i c (some v) := by
  have e : rs.getD i [] ∈ rs := by
    rw [List.getD_eq_getElem?_getD, List.getElem?_eq_getElem hi]
    exact List.getElem_mem _
  have l := (ht.rows _ e).1
  have look : ∀ a b, lookI [(keyN (i, c), v)] (keyN (a, b)) = if a = i ∧ b = c then some v else none := fun a b => by
    unfold lookI
    rw [List.find?_cons]
    by_cases h : a = i ∧ b = c
    · rw [if_pos h, h.1, h.2]
      simp
    · rw [if_neg h]
      have n : ¬ keyN (i, c) = keyN (a, b) := fun z => by
        have := keyN_inj z
        rw [Prod.mk.injEq] at this
        exact h ⟨this.1.symm, this.2.symm⟩
      simp [n]
  rw [withC_at ht]
  conv => rhs; rw [rows_range (setC rs i c (some v)), setC_len]
  apply List.map_congr_left
  intro a ha
  have ha := List.mem_range.mp ha
  have rowl : ((setC rs i c (some v)).getD a []).length = m.toNat := by
    unfold setC
    by_cases h : a = i
    · subst h
      rw [List.getD_eq_getElem?_getD, List.getElem?_set_self ha]
      simp only [Option.getD_some, List.length_set]
      omega
    · rw [List.getD_eq_getElem?_getD, List.getElem?_set_ne (fun z => h z.symm), ← List.getD_eq_getElem?_getD]
      have e : rs.getD a [] ∈ rs := by
        rw [List.getD_eq_getElem?_getD, List.getElem?_eq_getElem ha]
        exact List.getElem_mem _
      have := (ht.rows _ e).1
      omega
  apply List.ext_getElem?
  intro b
  rw [List.getElem?_map]
  by_cases hb : b < m.toNat
  · rw [List.getElem?_range hb]
    simp only [Option.map_some]
    have ce := cel_set ht (x := some v) hi hc a b
    have : ((setC rs i c (some v)).getD a [])[b]? = some (cel (setC rs i c (some v)) a b) := by
      unfold cel at_
      rw [Int.toNat_natCast, List.getD_eq_getElem?_getD (l := (setC rs i c (some v)).getD a []), List.getElem?_eq_getElem (by rw [rowl]; exact hb)]
      rfl
    rw [this, ce, look a b]
    by_cases h : a = i ∧ b = c
    · rw [if_pos h, if_pos h]
    · rw [if_neg h, if_neg h]
  · rw [List.getElem?_eq_none (by rw [List.length_range]; omega), List.getElem?_eq_none (by rw [rowl]; omega)]
    rfl
theorem hS_is_place : ∀ δ P, S_is_place δ P → ArgOk 2 δ ∧ wb_is_place (endsOf δ P) (δ ++ List.replicate (4 - 2) Sl.un) := by
  rintro δ P ⟨m, rs, i, c, rfl, hi, hc, h⟩
  refine ⟨argD [tabD m rs, pairD (i, c)], ?_⟩
  unfold wb_is_place pairD
  walk_at "ds"
  refine ifF rfl ?_
  refine ne_ok (k := true) rfl rfl ?_
  walk_at "ds"
  refine ifF rfl ?_
  refine ⟨rfl, ?_⟩
  refine tupix (xs := [.int m, rowsD rs]) (z := rowsD rs) rfl ?_
  unfold rowsD
  walk_at "ds"
  rw [List.length_map]
  refine ⟨rfl, _, _, _, rfl, by omega, by omega, ?_⟩
  refine ifT rfl ?_
  refine tupix (z := .int m) rfl ?_
  exact ⟨rfl, m, _, rfl, by omega, hc, h⟩
theorem hS_need_place : ∀ δ P, S_need_place δ P → ArgOk 2 δ ∧ wb_need_place (endsOf δ P) (δ ++ List.replicate (2 - 2) Sl.un) := by
  rintro δ P ⟨m, rs, i, c, rfl, hi, hc, h⟩
  exact ⟨argD [tabD m rs, pairD (i, c)], rfl, m, rs, i, c, rfl, hi, hc, ifF rfl h⟩
theorem hS_has_filling : ∀ δ P, S_has_filling δ P → ArgOk 2 δ ∧ wb_has_filling (endsOf δ P) (δ ++ List.replicate (2 - 2) Sl.un) := by
  rintro δ P ⟨m, rs, rl, rfl, ht, hr, h⟩
  refine ⟨argD [tabD m rs, rulesD rl], ?_⟩
  unfold wb_has_filling
  walk_at "ds"
  refine ⟨rfl, m, rs, rl, rfl, ht, hr, fun G hG => ?_⟩
  walk_at "ds"
  refine ⟨rfl, m, rs, G, rfl, ht, hG.shp, ?_⟩
  walk_at "ds"
  rw [← hasF_eq hG]
  exact h
theorem hS_filling_marks : ∀ δ P, S_filling_marks δ P → ArgOk 2 δ ∧ wb_filling_marks (endsOf δ P) (δ ++ List.replicate (3 - 2) Sl.un) := by
  rintro δ P ⟨m, rs, rl, rfl, ht, hr, hf, h⟩
  refine ⟨argD [tabD m rs, rulesD rl], ?_⟩
  unfold wb_filling_marks
  refine seqT fun T hT => ?_
  walk_at "ds"
  refine ⟨rfl, m, rs, rl, rfl, ht, hr, fun G hG => ?_⟩
  have nc : clash rs G = false := by
    have := hasF_eq hG
    rw [hf] at this
    cases e : clash rs G with
    | false => rfl
    | true => rw [e] at this; cases this
  walk_at "ds"
  subst hT
  refine seqT fun T hT => ?_
  walk_at "ds"
  refine ⟨rfl, m, rs, G, rfl, ht, hG.shp, ?_⟩
  rw [nc]
  refine ifF rfl ?_
  subst hT
  walk_at "ds"
  exact h G hG nc
theorem row_of {m : Int} {rs : List Cells} (ht : TabOk m rs) {i : Nat} {P : Rv → Prop} (hi : i < rs.length) (h : P (.d (rowD (rs.getD i [])))) : Dw.rIxD (rowsD rs) (.int (i : Nat)) P := tupix (rows_at ht hi).1 h
theorem cell_of {m : Int} {rs : List Cells} (ht : TabOk m rs) {i c : Nat} {P : Rv → Prop} (hi : i < rs.length) (hc : c < m.toNat) (h : P (.d (cellD (cel rs i c)))) : Dw.rIxD (rowD (rs.getD i [])) (.int (c : Nat)) P := by
  have := (rows_at ht hi).2.1
  exact rowix (by omega) (by omega) h
theorem hS_with_value : ∀ δ P, S_with_value δ P → ArgOk 3 δ ∧ wb_with_value (endsOf δ P) (δ ++ List.replicate (6 - 3) Sl.un) := by
  rintro δ P ⟨m, rs, i, c, v, rfl, ht, hi, hc, h⟩
  refine ⟨argD [tabD m rs, pairD (i, c), .int v], ?_⟩
  have r5 : ∀ r ∈ rs, r.length ≤ 5 := fun r hr => by have := (ht.rows r hr).1; have := ht.hi; omega
  unfold wb_with_value
  refine seqT fun T hT => ?_
  unfold pairD
  walk_at "ds"
  refine ⟨rfl, ?_⟩
  subst hT
  refine seqT fun T hT => ?_
  walk_at "ds"
  refine tupix (xs := [.int m, rowsD rs]) (z := rowsD rs) rfl ?_
  walk_at "ds"
  refine row_of ht hi ?_
  walk_at "ds"
  refine cell_of ht hi hc ?_
  walk_at "ds"
  subst hT
  refine seqT fun T hT => ?_
  unfold wvD at h
  have go : T [.d (tabD m rs), .d (.tuple [.int (i : Nat), .int (c : Nat)]), .d (.int v), .d (cellD (cel rs i c)), .d (.int (i : Nat)), .d (.int (c : Nat))] ↔ wRet (wCall S_with_cells (wCons (wV 0) (wCons (wD1 (wV 1) (wV 2)) wNil))) (endsOf [.d (tabD m rs), .d (.tuple [.int (i : Nat), .int (c : Nat)]), .d (.int v)] P) [.d (tabD m rs), .d (.tuple [.int (i : Nat), .int (c : Nat)]), .d (.int v), .d (cellD (cel rs i c)), .d (.int (i : Nat)), .d (.int (c : Nat))] := by rw [hT]; rfl
  have fin : (((cel rs i c).isNone || decide (cel rs i c = some v)) = true) → T [.d (tabD m rs), .d (.tuple [.int (i : Nat), .int (c : Nat)]), .d (.int v), .d (cellD (cel rs i c)), .d (.int (i : Nat)), .d (.int (c : Nat))] := fun q => by
    rw [if_pos q] at h
    refine go.mpr ?_
    walk_at "ds"
    refine ⟨keyN (i, c), v, rfl, rfl, ?_⟩
    refine ⟨rfl, m, rs, [(keyN (i, c), v)], rfl, ht.few, r5, ?_⟩
    rw [with_one ht hi hc]
    exact h
  clear hT
  walk_at "ds"
  cases e : cel rs i c with
  | none =>
    rw [e] at fin
    refine isnot_ok (k := true) rfl ?_
    walk_at "ds"
    exact ifF rfl (ifF rfl (fin rfl))
  | some u =>
    rw [e] at fin h
    refine isnot_ok (k := false) rfl ?_
    walk_at "ds"
    refine ifT rfl ?_
    refine ne_ok (k := decide (u = v)) rfl (eqv_int _ _) ?_
    walk_at "ds"
    by_cases q : u = v
    · rw [decide_eq_true q]
      refine ifF rfl (fin ?_)
      rw [q]
      simp
    · rw [decide_eq_false q]
      refine ifT rfl ?_
      rw [if_neg (by simp [q])] at h
      exact h
theorem hS_can_be : ∀ δ P, S_can_be δ P → ArgOk 4 δ ∧ wb_can_be (endsOf δ P) (δ ++ List.replicate (5 - 4) Sl.un) := by
  rintro δ P ⟨m, rs, rl, i, c, v, rfl, ht, hr, hi, hc, v0, v1, h⟩
  refine ⟨argD [tabD m rs, rulesD rl, pairD (i, c), .int v], ?_⟩
  unfold wb_can_be
  refine seqT fun T hT => ?_
  walk_at "ds"
  refine ⟨rfl, m, rs, i, c, v, rfl, ht, hi, hc, ?_⟩
  walk_at "ds"
  subst hT
  unfold canB at h
  unfold wvD
  cases e : ((cel rs i c).isNone || decide (cel rs i c = some v)) with
  | false =>
    rw [e] at h
    rw [if_neg (by decide)]
    walk_at "ds"
    refine isnot_ok (k := true) rfl ?_
    exact ifF rfl h
  | true =>
    rw [e] at h
    rw [if_pos rfl]
    walk_at "ds"
    refine isnot_ok (k := false) rfl ?_
    refine ifT rfl ?_
    refine ⟨rfl, m, setC rs i c (some v), rl, rfl, set_ok ht hi (fun u hu => by cases hu; exact ⟨v0, v1⟩), hr, ?_⟩
    rw [Bool.true_and] at h
    exact h
theorem col_len {rs : List Cells} {c : Nat} : (rs.filterMap fun r => at_ r (c : Nat)).length ≤ rs.length := List.length_filterMap_le _ _
theorem mem_col {rs : List Cells} {c : Nat} {k : Int} : k ∈ (rs.filterMap fun r => at_ r (c : Nat)) ↔ ∃ i, i < rs.length ∧ cel rs i c = some k := by
  rw [List.mem_filterMap]
  constructor
  · rintro ⟨r, hr, e⟩
    obtain ⟨i, hi, rfl⟩ := List.getElem_of_mem hr
    refine ⟨i, hi, ?_⟩
    unfold cel
    rw [List.getD_eq_getElem?_getD, List.getElem?_eq_getElem hi]
    exact e
  · rintro ⟨i, hi, e⟩
    refine ⟨rs.getD i [], ?_, e⟩
    rw [List.getD_eq_getElem?_getD, List.getElem?_eq_getElem hi]
    exact List.getElem_mem _
theorem filt_cells (c : Nat) : ∀ rs : List Cells, ((rs.filter fun r => (at_ r (c : Nat)).isSome).map fun r => cellD (at_ r (c : Nat))) = (rs.filterMap fun r => at_ r (c : Nat)).map PyData.int
  | [] => rfl
  | r :: rs => by
    have ih := filt_cells c rs
    rw [List.filter_cons, List.filterMap_cons]
    cases e : at_ r (c : Nat) with
    | none => simpa using ih
    | some v =>
      simp only [Option.isSome_some, if_true, List.map_cons, e]
      rw [ih]
      rfl
theorem hS_column_values : ∀ δ P, S_column_values δ P → ArgOk 2 δ ∧ wb_column_values (endsOf δ P) (δ ++ List.replicate (3 - 2) Sl.un) := by
  rintro δ P ⟨m, rs, c, rfl, ht, hc, h⟩
  refine ⟨argD [tabD m rs, .int (c : Nat)], ?_⟩
  have n8 := ht.few
  unfold wb_column_values
  walk_at "ds"
  unfold wSortSetG
  walk_at "ds"
  refine tupix (xs := [.int m, rowsD rs]) (z := rowsD rs) rfl ?_
  unfold rowsD
  walk_at "ds"
  refine ⟨⟨by rw [List.length_map]; omega, rfl⟩, ?_⟩
  refine go_filT rowD (fun r => (at_ r (c : Nat)).isSome) (fun r => cellD (at_ r (c : Nat))) rs [] (fun r hr C C' h1 h2 => ?_) ?_
  · have l := (ht.rows r hr).1
    walk_at "ds"
    refine rowix (by omega) (by omega) ?_
    walk_at "ds"
    cases e : at_ r (c : Nat) with
    | none =>
      rw [e] at h2
      refine isnot_ok (k := true) rfl ?_
      walk_at "ds"
      exact ifF rfl (h2 rfl)
    | some v =>
      rw [e] at h1
      refine isnot_ok (k := false) rfl ?_
      walk_at "ds"
      refine ifT rfl (rowix (by omega) (by omega) ⟨rfl, ?_⟩)
      rw [e]
      exact h1 rfl
  rw [List.nil_append, filt_cells]
  have := col_len (rs := rs) (c := c)
  refine ⟨_, rfl, by omega, fun ms m1 m2 => h ms ⟨m1, fun k => (m2 k).trans mem_col⟩⟩
theorem hS_law_has_filling : ∀ δ P, S_law_has_filling δ P → ArgOk 3 δ ∧ wb_law_has_filling (endsOf δ P) (δ ++ List.replicate (3 - 3) Sl.un) := by
  rintro δ P ⟨m, rs, rl, rfl, ht, hr, h⟩
  refine ⟨argD [.int m, rowsD rs, rulesD rl], ?_⟩
  unfold wb_law_has_filling
  walk_at "ds"
  refine ⟨rfl, m, rs, rl, rfl, ht, hr, fun G hG => ?_⟩
  walk_at "ds"
  refine ⟨rfl, m, rs, G, rfl, ht, hG.shp, ?_⟩
  walk_at "ds"
  rw [← hasF_eq hG]
  exact h
theorem cut_lo {α : Type} (xs : List α) (k : Nat) (h : k ≤ xs.length) : (xs.drop (HT.sIx xs.length 0 none)).take (HT.sIx xs.length xs.length (some (k : Nat)) - HT.sIx xs.length 0 none) = xs.take k := by
  rw [HT.sIx_none, show HT.sIx xs.length xs.length (some ((k : Nat) : Int)) = min k xs.length from HT.sIx_nat xs.length xs.length k, List.drop_zero, Nat.sub_zero, Nat.min_eq_left h]
theorem cut_hi {α : Type} (xs : List α) (k : Nat) (h : k ≤ xs.length) : (xs.drop (HT.sIx xs.length 0 (some (k : Nat)))).take (HT.sIx xs.length xs.length none - HT.sIx xs.length 0 (some (k : Nat))) = xs.drop k := by
  rw [HT.sIx_none, show HT.sIx xs.length 0 (some ((k : Nat) : Int)) = min k xs.length from HT.sIx_nat xs.length 0 k, Nat.min_eq_left h]
  rw [List.take_of_length_le (by rw [List.length_drop]; omega)]
theorem set_cut {α : Type} (xs : List α) (k : Nat) (x : α) (h : k < xs.length) : xs.take k ++ [x] ++ xs.drop (k + 1) = xs.set k x := by
  rw [List.set_eq_take_append_cons_drop, if_pos h, List.append_assoc]
  rfl
theorem hS_law_with : ∀ δ P, S_law_with δ P → ArgOk 4 δ ∧ wb_law_with (endsOf δ P) (δ ++ List.replicate (5 - 4) Sl.un) := by
  rintro δ P ⟨m, rs, i, c, x, rfl, ht, hi, hc, h⟩
  refine ⟨argD [rowsD rs, .int (i : Nat), .int (c : Nat), cellD x], ?_⟩
  have n8 := ht.few
  have m5 := ht.hi
  have l := (rows_at ht hi).2.1
  unfold wb_law_with
  refine seqT fun T hT => ?_
  walk_at "ds"
  refine row_of ht hi ?_
  unfold rowD
  walk_at "ds"
  have c1 : Dw.cutD ((rs.getD i []).map cellD) none (some ((c : Nat) : Int)) = ((rs.getD i []).map cellD).take c := cut_lo _ c (by rw [List.length_map]; omega)
  have c2 : Dw.cutD ((rs.getD i []).map cellD) (some (((c : Nat) : Int) + 1)) none = ((rs.getD i []).map cellD).drop (c + 1) := by
    have := cut_hi ((rs.getD i []).map cellD) (c + 1) (by rw [List.length_map]; omega)
    rw [show (((c + 1 : Nat) : Nat) : Int) = ((c : Nat) : Int) + 1 by omega] at this
    exact this
  rw [c1]
  refine ⟨⟨rfl, by simp⟩, ?_⟩
  refine ⟨by rw [List.length_take]; simp; omega, ?_⟩
  refine row_of ht hi ?_
  unfold rowD
  walk_at "ds"
  rw [c2]
  refine ⟨by simp only [List.length_append, List.length_take, List.length_drop, List.length_map, List.length_cons, List.length_nil]; omega, ?_⟩
  subst hT
  walk_at "ds"
  rw [set_cut _ c (cellD x) (by rw [List.length_map]; omega), ← List.map_set]
  unfold rowsD
  walk_at "ds"
  have d1 : Dw.cutD (rs.map rowD) none (some ((i : Nat) : Int)) = (rs.map rowD).take i := cut_lo _ i (by rw [List.length_map]; omega)
  have d2 : Dw.cutD (rs.map rowD) (some (((i : Nat) : Int) + 1)) none = (rs.map rowD).drop (i + 1) := by
    have := cut_hi (rs.map rowD) (i + 1) (by rw [List.length_map]; omega)
    rw [show (((i + 1 : Nat) : Nat) : Int) = ((i : Nat) : Int) + 1 by omega] at this
    exact this
  rw [d1]
  refine ⟨⟨rfl, by simp⟩, ?_⟩
  refine ⟨by rw [List.length_take]; simp; omega, ?_⟩
  rw [d2]
  refine ⟨by simp only [List.length_append, List.length_take, List.length_drop, List.length_map, List.length_cons, List.length_nil]; omega, ?_⟩
  have e : (rs.map rowD).take i ++ [PyData.tuple (((rs.getD i []).set c x).map cellD)] ++ (rs.map rowD).drop (i + 1) = (setC rs i c x).map rowD := by
    rw [set_cut _ i _ (by rw [List.length_map]; omega)]
    unfold setC
    rw [List.map_set (f := rowD)]
    rfl
  rw [e]
  exact h
end B

namespace B
open PySem PySem.Spec PyProof.Rows L2 Dw
local macro_rules | `(tactic| walk_at "ds") => `(tactic| try dsimp only [wRet, wRetN, sPu, wThenX, wIfX, wRetX, wDropX, wSetX, wCallX, wCallP, uPu, wPu, uConsX, wRaise, wDc, wDcT, wDZ, wD1, wGet1, wGet2, wGetT, wThen, wIfS, wIf, wNotT, wTru, wB, w2, wV, wC, wCons, wNil, wCall, wCallO, wCallO1, endO, wCB, wLc, wSeq, wYes, wNext, wNever, wDrop, wSet, wAsg, wPair, wFor, wTup, wLst, wAndV, wOrV, wNotV, wNeg, wAndT, wOrT, wIsi, wChain, wSlice, wPart, wNo, wZip, wEnum, wRng1, wRng2, wLc2, wApp, wApp1, wPop, wPop1, wExt, wExt1, wSetI, wSetI1, wSetD, wIdx, wIdx1, wExtL, wExtL1, wLenM, wNotInM, wGetM, wPutM, wPutM1, wSetK, wTri, wForget, rCatTD, rCatLD, intsR, Option.map_some, bN, bTup, bCons, bNil, as_d, as_l, as_b, noB_d, noB_l, still_d, still_l, still_b, put_d, put_l, tru_bool, tru_tup, tru_lst, isT_tup, isI_int, isB_int, stillA_nil, stillA_cons, map0, map1, map2, map3, len_l, len_t, tup_l, tup_t, lst_l, lst_t, max_i, min_i, List.all_cons, List.all_nil, Bool.and_self, Bool.and_true, Bool.not_true, Bool.not_false, List.getElem?_cons_zero, List.getElem?_cons_succ, List.cons_append, List.nil_append, List.append_nil, List.reduceReplicate, Nat.reduceSub, Nat.sub_self, rI1, rI2, rAddD, rSubD, rMulD, rDivD, rModD, rPowD, rLtD, rLeD, rGtD, rGeD, List.set_cons_zero, List.set_cons_succ, List.set_nil, endsOf, outD, wipeD])
theorem nodup_len : ∀ {l ns : List Int}, l.Nodup → (∀ k ∈ l, k ∈ ns) → l.length ≤ ns.length
  | [], _, _, _ => Nat.zero_le _
  | x :: l, ns, hn, h => by
    obtain ⟨h1, h2⟩ := List.nodup_cons.mp hn
    have hx := h x List.mem_cons_self
    have ih := nodup_len (l := l) (ns := ns.erase x) h2 fun k hk => by
      have ne : k ≠ x := fun e => h1 (e ▸ hk)
      exact (List.mem_erase_of_ne ne).mpr (h k (List.mem_cons_of_mem _ hk))
    rw [List.length_erase_of_mem hx] at ih
    have : 0 < ns.length := List.length_pos_of_mem hx
    rw [List.length_cons]
    omega
theorem insert_asc (x : Int) : ∀ l : List Int, l.Pairwise (· < ·) → ∃ l' : List Int, l'.Pairwise (· < ·) ∧ ∀ k, k ∈ l' ↔ k = x ∨ k ∈ l
  | [], _ => ⟨[x], by simp, by simp⟩
  | y :: l, h => by
    obtain ⟨h1, h2⟩ := List.pairwise_cons.mp h
    by_cases e : x = y
    · exact ⟨y :: l, h, fun k => by rw [e]; simp⟩
    · by_cases lt : x < y
      · refine ⟨x :: y :: l, List.pairwise_cons.mpr ⟨fun z hz => ?_, h⟩, by simp⟩
        rcases List.mem_cons.mp hz with rfl | hz
        · exact lt
        · have := h1 z hz; omega
      · obtain ⟨l', p, q⟩ := insert_asc x l h2
        refine ⟨y :: l', List.pairwise_cons.mpr ⟨fun z hz => ?_, p⟩, fun k => ?_⟩
        · rcases (q z).mp hz with rfl | hz
          · omega
          · exact h1 z hz
        · rw [List.mem_cons, q, List.mem_cons]
          constructor
          · rintro (a | a | a)
            · exact .inr (.inl a)
            · exact .inl a
            · exact .inr (.inr a)
          · rintro (a | a | a)
            · exact .inr (.inl a)
            · exact .inl a
            · exact .inr (.inr a)
theorem asc_of : ∀ l : List Int, ∃ l' : List Int, l'.Pairwise (· < ·) ∧ ∀ k, k ∈ l' ↔ k ∈ l
  | [] => ⟨[], by simp, by simp⟩
  | x :: l => by
    obtain ⟨l', p, q⟩ := asc_of l
    obtain ⟨l2, p2, q2⟩ := insert_asc x l' p
    exact ⟨l2, p2, fun k => by rw [q2, q, List.mem_cons]⟩
theorem colL_ex (rs : List Cells) (c : Nat) : ∃ ms, ColV rs c ms := by
  obtain ⟨l, p, q⟩ := asc_of (rs.filterMap fun r => at_ r (c : Nat))
  exact ⟨l, p, fun k => (q k).trans mem_col⟩
noncomputable def colL (rs : List Cells) (c : Nat) : List Int := Classical.choose (colL_ex rs c)
theorem colL_ok (rs : List Cells) (c : Nat) : ColV rs c (colL rs c) := Classical.choose_spec (colL_ex rs c)
theorem colV_ok {m : Int} {rs : List Cells} {c : Nat} {ms : List Int} (ht : TabOk m rs) (hc : c < m.toNat) (h : ColV rs c ms) : ∀ v ∈ ms, 0 ≤ v ∧ v ≤ 9999 := fun v hv => by
  obtain ⟨i, hi, e⟩ := (h.2 v).mp hv
  obtain ⟨h2, e2⟩ := cel_at ht hi hc
  have hx : rs.getD i [] ∈ rs := by
    rw [List.getD_eq_getElem?_getD, List.getElem?_eq_getElem hi]
    exact List.getElem_mem _
  exact (ht.rows _ hx).2 _ (List.getElem_mem h2) v (by rw [← e2]; exact e)
theorem asc_len : ∀ {l : List Int} {n : Nat} (ns : List Int), l.Pairwise (· < ·) → (∀ k ∈ l, k ∈ ns) → ns.length ≤ n → l.length ≤ n := by
  intro l n ns p h hn
  refine Nat.le_trans ?_ hn
  have nd : l.Nodup := p.imp fun h e => by omega
  exact nodup_len nd h
theorem colV_len {m : Int} {rs : List Cells} {c : Nat} {ms : List Int} (ht : TabOk m rs) (h : ColV rs c ms) : ms.length ≤ 8 := asc_len (rs.filterMap fun r => at_ r (c : Nat)) h.1 (fun k hk => mem_col.mpr ((h.2 k).mp hk)) (Nat.le_trans col_len ht.few)
theorem colV_uniq {rs : List Cells} {c : Nat} {a b : List Int} (ha : ColV rs c a) (hb : ColV rs c b) : a = b := asc_eq a b ha.1 hb.1 fun k => (ha.2 k).trans (hb.2 k).symm
noncomputable def posL (m : Nat) (rs : List Cells) (rl : List Rule) (i c : Nat) : List Int := (colL rs c).filter (canB m rs rl i c)
noncomputable def togL (m : Nat) (rs : List Cells) (rl : List Rule) (i c a b : Nat) : List (Int × Int) := (posL m rs rl i c).flatMap fun v => ((posL m rs rl a b).filter fun w => !canB m (setC rs i c (some v)) rl a b w).map fun w => (v, w)
noncomputable def togD (m : Nat) (rs : List Cells) (rl : List Rule) (i c a b : Nat) : PyData := .tuple ((togL m rs rl i c a b).map twoD)
theorem mem_pos {m : Nat} {rs : List Cells} {rl : List Rule} {i c : Nat} {v : Int} : v ∈ posL m rs rl i c ↔ v ∈ colL rs c ∧ canB m rs rl i c v = true := List.mem_filter
theorem pos_ok {m : Int} {rs : List Cells} {rl : List Rule} {i c : Nat} (ht : TabOk m rs) (hc : c < m.toNat) : ∀ v ∈ posL m.toNat rs rl i c, 0 ≤ v ∧ v ≤ 9999 := fun v hv => colV_ok ht hc (colL_ok rs c) v (mem_pos.mp hv).1
theorem pos_len {m : Int} {rs : List Cells} {rl : List Rule} {i c : Nat} (ht : TabOk m rs) : (posL m.toNat rs rl i c).length ≤ 8 := Nat.le_trans (List.length_filter_le _ _) (colV_len ht (colL_ok rs c))
theorem pos_asc {m : Nat} {rs : List Cells} {rl : List Rule} {i c : Nat} : (posL m rs rl i c).Pairwise (· < ·) := List.Pairwise.filter _ (colL_ok rs c).1
theorem can_cell {m : Nat} {rs : List Cells} {rl : List Rule} {i c : Nat} {v : Int} (h : canB m rs rl i c v = true) : ((cel rs i c).isNone || decide (cel rs i c = some v)) = true := by
  unfold canB at h
  exact (Bool.and_eq_true_iff.mp h).1
theorem mem_tog {m : Nat} {rs : List Cells} {rl : List Rule} {i c a b : Nat} {p : Int × Int} : p ∈ togL m rs rl i c a b ↔ p.1 ∈ posL m rs rl i c ∧ p.2 ∈ posL m rs rl a b ∧ canB m (setC rs i c (some p.1)) rl a b p.2 = false := by
  unfold togL
  rw [List.mem_flatMap]
  constructor
  · rintro ⟨v, hv, h⟩
    obtain ⟨w, hw, rfl⟩ := List.mem_map.mp h
    obtain ⟨h1, h2⟩ := List.mem_filter.mp hw
    exact ⟨hv, h1, by simpa using h2⟩
  · rintro ⟨h1, h2, h3⟩
    exact ⟨p.1, h1, List.mem_map.mpr ⟨p.2, List.mem_filter.mpr ⟨h2, by simpa using h3⟩, rfl⟩⟩
theorem gd_same {α : Type} {l : List α} {i : Nat} {x d : α} (h : i < l.length) : (l.set i x).getD i d = x := by
  rw [List.getD_eq_getElem?_getD, List.getElem?_set_self h]
  rfl
theorem gd_ne {α : Type} {l : List α} {i j : Nat} {x d : α} (h : i ≠ j) : (l.set i x).getD j d = l.getD j d := by
  rw [List.getD_eq_getElem?_getD, List.getElem?_set_ne h, List.getD_eq_getElem?_getD]
theorem setC_comm {rs : List Cells} {i c a b : Nat} {x y : Option Int} (hi : i < rs.length) (ha : a < rs.length) (h : ¬ (a = i ∧ b = c)) : setC (setC rs i c x) a b y = setC (setC rs a b y) i c x := by
  unfold setC
  by_cases e : i = a
  · subst e
    rw [gd_same hi, gd_same hi, List.set_set, List.set_set, List.set_comm]
    intro z
    exact h ⟨rfl, z.symm⟩
  · rw [gd_ne e, gd_ne (fun z => e z.symm), List.set_comm _ _ e]
theorem can_swap {m : Int} {rs : List Cells} {rl : List Rule} (ht : TabOk m rs) {i c a b : Nat} {v w : Int} (hi : i < rs.length) (hc : c < m.toNat) (ha : a < rs.length) (hb : b < m.toNat) (h1 : canB m.toNat rs rl i c v = true) (h2 : canB m.toNat rs rl a b w = true) : canB m.toNat (setC rs i c (some v)) rl a b w = canB m.toNat (setC rs a b (some w)) rl i c v := by
  have o1 := can_cell h1
  have o2 := can_cell h2
  unfold canB
  rw [cel_set ht hi hc, cel_set ht ha hb]
  by_cases q : a = i ∧ b = c
  · obtain ⟨rfl, rfl⟩ := q
    rw [if_pos ⟨rfl, rfl⟩, if_pos ⟨rfl, rfl⟩]
    by_cases e : v = w
    · subst e; rfl
    · have e1 : decide (some v = some w) = false := decide_eq_false fun z => e (Option.some.inj z)
      have e2 : decide (some w = some v) = false := decide_eq_false fun z => e (Option.some.inj z).symm
      rw [e1, e2]
      rfl
  · rw [if_neg q, if_neg fun z => q ⟨z.1.symm, z.2.symm⟩, o1, o2, setC_comm hi ha q]
/-- by the first, then by the second -/
def LX (p q : Int × Int) : Prop := p.1 < q.1 ∨ (p.1 = q.1 ∧ p.2 < q.2)
theorem lx_no {p : Int × Int} (h : LX p p) : False := by unfold LX at h; omega
theorem lx_two {p q : Int × Int} (h : LX p q) (g : LX q p) : False := by unfold LX at h g; omega
theorem lx_eq : ∀ (l l' : List (Int × Int)), l.Pairwise LX → l'.Pairwise LX → (∀ k, k ∈ l ↔ k ∈ l') → l = l'
  | [], [], _, _, _ => rfl
  | [], b :: l', _, _, h => by have := (h b).mpr List.mem_cons_self; simp at this
  | a :: l, [], _, _, h => by have := (h a).mp List.mem_cons_self; simp at this
  | a :: l, b :: l', p, p', h => by
    obtain ⟨p1, p2⟩ := List.pairwise_cons.mp p
    obtain ⟨q1, q2⟩ := List.pairwise_cons.mp p'
    have e : a = b := by
      rcases List.mem_cons.mp ((h a).mp List.mem_cons_self) with z | z
      · exact z
      · rcases List.mem_cons.mp ((h b).mpr List.mem_cons_self) with y | y
        · exact y.symm
        · exact (lx_two (q1 a z) (p1 b y)).elim
    subst e
    rw [lx_eq l l' p2 q2 fun k => ?_]
    constructor
    · intro hk
      rcases List.mem_cons.mp ((h k).mp (List.mem_cons_of_mem _ hk)) with z | z
      · subst z; exact (lx_no (p1 _ hk)).elim
      · exact z
    · intro hk
      rcases List.mem_cons.mp ((h k).mpr (List.mem_cons_of_mem _ hk)) with z | z
      · subst z; exact (lx_no (q1 _ hk)).elim
      · exact z
theorem flat_lx (f : Int → List Int) (hf : ∀ v, (f v).Pairwise (· < ·)) : ∀ l : List Int, l.Pairwise (· < ·) → (l.flatMap fun v => (f v).map fun w => (v, w)).Pairwise LX
  | [], _ => by simp
  | v :: l, h => by
    obtain ⟨h1, h2⟩ := List.pairwise_cons.mp h
    rw [List.flatMap_cons, List.pairwise_append]
    refine ⟨List.pairwise_map.mpr ((hf v).imp fun {x y} z => .inr ⟨rfl, z⟩), flat_lx f hf l h2, fun p hp q hq => ?_⟩
    obtain ⟨w, _, rfl⟩ := List.mem_map.mp hp
    obtain ⟨u, hu, hq⟩ := List.mem_flatMap.mp hq
    obtain ⟨w', _, rfl⟩ := List.mem_map.mp hq
    exact .inl (h1 u hu)
theorem tog_lx {m : Nat} {rs : List Cells} {rl : List Rule} {i c a b : Nat} : (togL m rs rl i c a b).Pairwise LX := flat_lx (fun v => (posL m rs rl a b).filter fun w => !canB m (setC rs i c (some v)) rl a b w) (fun v => List.Pairwise.filter _ pos_asc) _ pos_asc
theorem tog_back {m : Int} {rs : List Cells} {rl : List Rule} (ht : TabOk m rs) {i c a b : Nat} (hi : i < rs.length) (hc : c < m.toNat) (ha : a < rs.length) (hb : b < m.toNat) {qs : List (Int × Int)} (p : qs.Perm ((togL m.toNat rs rl i c a b).map fun x => (x.2, x.1))) (s : qs.Pairwise fun a b => a.1 < b.1 ∨ (a.1 = b.1 ∧ a.2 ≤ b.2)) : qs = togL m.toNat rs rl a b i c := by
  have nd : qs.Nodup := by
    refine p.nodup_iff.mpr (List.pairwise_map.mpr ((tog_lx (m := m.toNat)).imp fun {x y} h e => ?_))
    unfold LX at h
    have e1 := congrArg Prod.fst e
    have e2 := congrArg Prod.snd e
    dsimp only at e1 e2
    omega
  refine lx_eq _ _ ?_ tog_lx fun k => ?_
  · refine (List.Pairwise.and s nd).imp fun {x y} h => ?_
    obtain ⟨h, n⟩ := h
    unfold LX
    rcases h with z | ⟨z, y'⟩
    · exact .inl z
    · refine .inr ⟨z, ?_⟩
      have : x.2 ≠ y.2 := fun e => n (Prod.ext z e)
      omega
  · rw [p.mem_iff, List.mem_map, mem_tog]
    constructor
    · rintro ⟨x, hx, rfl⟩
      obtain ⟨h1, h2, h3⟩ := mem_tog.mp hx
      refine ⟨h2, h1, ?_⟩
      rw [← can_swap ht hi hc ha hb (mem_pos.mp h1).2 (mem_pos.mp h2).2]
      exact h3
    · rintro ⟨h1, h2, h3⟩
      refine ⟨(k.2, k.1), mem_tog.mpr ⟨h2, h1, ?_⟩, rfl⟩
      rw [can_swap ht hi hc ha hb (mem_pos.mp h2).2 (mem_pos.mp h1).2]
      exact h3
theorem tog_len {m : Int} {rs : List Cells} {rl : List Rule} (ht : TabOk m rs) {i c a b : Nat} : (togL m.toNat rs rl i c a b).length ≤ 64 := by
  have key : ∀ (f : Int → List (Int × Int)) (l : List Int), (∀ v ∈ l, (f v).length ≤ 8) → (l.flatMap f).length ≤ 8 * l.length := by
    intro f l
    induction l with
    | nil => intro _; simp
    | cons v l ih =>
      intro h
      have := ih fun x hx => h x (List.mem_cons_of_mem _ hx)
      have := h v List.mem_cons_self
      rw [List.flatMap_cons, List.length_append, List.length_cons]
      omega
  have := key (fun v => ((posL m.toNat rs rl a b).filter fun w => !canB m.toNat (setC rs i c (some v)) rl a b w).map fun w => (v, w)) (posL m.toNat rs rl i c) fun v _ => by
    rw [List.length_map]
    exact Nat.le_trans (List.length_filter_le _ _) (pos_len ht)
  have l := pos_len (rl := rl) (i := i) (c := c) ht
  unfold togL
  omega
theorem sm_tog {m : Int} {rs : List Cells} {rl : List Rule} (ht : TabOk m rs) {i c a b : Nat} (hc : c < m.toNat) (hb : b < m.toNat) : Sm (64 * (2 + 1)) (1 + 1) (togD m.toNat rs rl i c a b) := by
  refine sm_tup (fun p hp => ?_) (tog_len ht)
  obtain ⟨h1, h2, _⟩ := mem_tog.mp hp
  have a1 := pos_ok ht hc _ h1
  have a2 := pos_ok ht hb _ h2
  exact (sm_two (sm_int a1.1 (by omega)) (sm_int a2.1 (by omega))).1
theorem sm_lst3 {a b c : PyData} {k n : Nat} (h1 : Sm k n a) (h2 : Sm k n b) (h3 : Sm k n c) : Sm (3 * (k + 1)) (n + 1) (.list [a, b, c]) := by
  have q : Sm (3 * (k + 1)) (n + 1) (.tuple ([a, b, c].map id)) := sm_tup (fun x hx => by
    simp only [List.mem_cons, List.mem_nil_iff, or_false] at hx
    rcases hx with rfl | rfl | rfl
    · exact h1
    · exact h2
    · exact h3) (Nat.le_refl _)
  refine ⟨?_, ?_, ?_⟩
  · have := q.1
    simp only [short, List.map_id] at this ⊢
    exact this
  · have := q.2.1
    simp only [count, List.map_id] at this ⊢
    exact this
  · have := q.2.2
    simp only [PyData.depth, List.map_id] at this ⊢
    exact this
end B

namespace B
open PySem PySem.Spec PyProof.Rows L2 Dw
local macro_rules | `(tactic| walk_at "ds") => `(tactic| try dsimp only [wRet, wRetN, sPu, wThenX, wIfX, wRetX, wDropX, wSetX, wCallX, wCallP, uPu, wPu, uConsX, wRaise, wDc, wDcT, wDZ, wD1, wGet1, wGet2, wGetT, wThen, wIfS, wIf, wNotT, wTru, wB, w2, wV, wC, wCons, wNil, wCall, wCallO, wCallO1, endO, wCB, wLc, wSeq, wYes, wNext, wNever, wDrop, wSet, wAsg, wPair, wFor, wTup, wLst, wAndV, wOrV, wNotV, wNeg, wAndT, wOrT, wIsi, wChain, wSlice, wPart, wNo, wZip, wEnum, wRng1, wRng2, wLc2, wApp, wApp1, wPop, wPop1, wExt, wExt1, wSetI, wSetI1, wSetD, wIdx, wIdx1, wExtL, wExtL1, wLenM, wNotInM, wGetM, wPutM, wPutM1, wSetK, wTri, wForget, rCatTD, rCatLD, intsR, Option.map_some, bN, bTup, bCons, bNil, as_d, as_l, as_b, noB_d, noB_l, still_d, still_l, still_b, put_d, put_l, tru_bool, tru_tup, tru_lst, isT_tup, isI_int, isB_int, stillA_nil, stillA_cons, map0, map1, map2, map3, len_l, len_t, tup_l, tup_t, lst_l, lst_t, max_i, min_i, List.all_cons, List.all_nil, Bool.and_self, Bool.and_true, Bool.not_true, Bool.not_false, List.getElem?_cons_zero, List.getElem?_cons_succ, List.cons_append, List.nil_append, List.append_nil, List.reduceReplicate, Nat.reduceSub, Nat.sub_self, rI1, rI2, rAddD, rSubD, rMulD, rDivD, rModD, rPowD, rLtD, rLeD, rGtD, rGeD, List.set_cons_zero, List.set_cons_succ, List.set_nil, endsOf, outD, wipeD])
/-! two cells made equal -/
theorem jn_mono {m : Nat} {rs rs' : List Cells} {rl : List Rule} (hl : rs'.length = rs.length) (hv : ∀ c i j v, c < m → i < rs.length → j < rs.length → cel rs i c = some v → cel rs j c = some v → Jn m rs' rl c i j) {c i j : Nat} (h : Jn m rs rl c i j) : Jn m rs' rl c i j := by
  induction h with
  | refl h1 h2 => exact .refl h1 (by rw [hl]; exact h2)
  | val h1 h2 h3 e1 e2 => exact hv _ _ _ _ h1 h2 h3 e1 e2
  | symm _ ih => exact .symm ih
  | trans _ _ a b => exact .trans a b
  | step h1 h2 h3 h4 _ ih => exact .step h1 h2 (by rw [hl]; exact h3) (by rw [hl]; exact h4) ih
open Classical in
theorem hasF_iff {m : Nat} {rs : List Cells} {rl : List Rule} : hasF m rs rl = true ↔ NoCl m rs rl := by
  unfold hasF
  exact ⟨fun h => of_decide_eq_true h, fun h => decide_eq_true h⟩
/-- a cell that is joined to a value is written with it: nothing changes -/
theorem fill_known {m : Int} {rs : List Cells} {rl : List Rule} (ht : TabOk m rs) {i c j : Nat} {u : Int} (hi : i < rs.length) (hc : c < m.toNat) (jn : Jn m.toNat rs rl c i j) (e : cel rs j c = some u) (no : cel rs i c = none ∨ cel rs i c = some u) : hasF m.toNat (setC rs i c (some u)) rl = hasF m.toNat rs rl := by
  have hj := (jn_in jn).2.2
  have up : ∀ {k a b}, Jn m.toNat rs rl k a b → Jn m.toNat (setC rs i c (some u)) rl k a b := fun h => jn_mono setC_len (fun k a b v h1 h2 h3 e1 e2 => by
    refine .val h1 (by rw [setC_len]; exact h2) (by rw [setC_len]; exact h3) (v := v) ?_ ?_
    · rw [cel_set ht hi hc]
      split
      · rename_i q
        rw [q.1, q.2] at e1
        rcases no with z | z
        · rw [z] at e1; cases e1
        · rw [z] at e1; exact e1
      · exact e1
    · rw [cel_set ht hi hc]
      split
      · rename_i q
        rw [q.1, q.2] at e2
        rcases no with z | z
        · rw [z] at e2; cases e2
        · rw [z] at e2; exact e2
      · exact e2) h
  have dn : ∀ {k a b}, Jn m.toNat (setC rs i c (some u)) rl k a b → Jn m.toNat rs rl k a b := fun h => jn_mono setC_len.symm (fun k a b v h1 h2 h3 e1 e2 => by
    rw [setC_len] at h2 h3
    rw [cel_set ht hi hc] at e1 e2
    by_cases q1 : a = i ∧ k = c <;> by_cases q2 : b = i ∧ k = c
    · rw [q1.1, q2.1]; exact .refl h1 hi
    · rw [if_pos q1] at e1
      rw [if_neg q2] at e2
      cases e1
      rw [q1.1, q1.2]
      rw [q1.2] at e2
      exact .trans jn (.val hc hj h3 e e2)
    · rw [if_neg q1] at e1
      rw [if_pos q2] at e2
      cases e2
      rw [q2.1, q2.2]
      rw [q2.2] at e1
      exact .symm (.trans jn (.val hc hj h2 e e1))
    · rw [if_neg q1] at e1
      rw [if_neg q2] at e2
      exact .val h1 h2 h3 e1 e2) h
  have key : NoCl m.toNat (setC rs i c (some u)) rl ↔ NoCl m.toNat rs rl := by
    constructor
    · intro h k a b v w j1 e1 e2
      have e1' : cel (setC rs i c (some u)) a k = some v := by
        rw [cel_set ht hi hc]
        split
        · rename_i q
          rw [q.1, q.2] at e1
          rcases no with z | z
          · rw [z] at e1; cases e1
          · rw [z] at e1; exact e1
        · exact e1
      have e2' : cel (setC rs i c (some u)) b k = some w := by
        rw [cel_set ht hi hc]
        split
        · rename_i q
          rw [q.1, q.2] at e2
          rcases no with z | z
          · rw [z] at e2; cases e2
          · rw [z] at e2; exact e2
        · exact e2
      exact h k a b v w (up j1) e1' e2'
    · intro h k a b v w j1 e1 e2
      have j1 := dn j1
      rw [cel_set ht hi hc] at e1 e2
      by_cases q1 : a = i ∧ k = c <;> by_cases q2 : b = i ∧ k = c
      · rw [if_pos q1] at e1
        rw [if_pos q2] at e2
        cases e1; cases e2; rfl
      · rw [if_pos q1] at e1
        rw [if_neg q2] at e2
        cases e1
        rw [q1.1, q1.2] at j1
        rw [q1.2] at e2
        exact h c j b u w (.trans (.symm jn) j1) e e2
      · rw [if_neg q1] at e1
        rw [if_pos q2] at e2
        cases e2
        rw [q2.1, q2.2] at j1
        rw [q2.2] at e1
        exact h c a j v u (.trans j1 jn) e1 e
      · rw [if_neg q1] at e1
        rw [if_neg q2] at e2
        exact h k a b v w j1 e1 e2
  cases e1 : hasF m.toNat rs rl with
  | true => exact hasF_iff.mpr (key.mpr (hasF_iff.mp e1))
  | false =>
    cases e2 : hasF m.toNat (setC rs i c (some u)) rl with
    | false => rfl
    | true =>
      have := hasF_iff.mpr (key.mp (hasF_iff.mp e2))
      rw [e1] at this
      cases this
/-- a free cell is written with a new value -/
theorem fill_free {m : Int} {rs : List Cells} {rl : List Rule} (ht : TabOk m rs) {i c : Nat} {v : Int} (hi : i < rs.length) (hc : c < m.toNat) (no : NoCl m.toNat rs rl) (fr : ∀ j u, Jn m.toNat rs rl c i j → cel rs j c ≠ some u) (hv : ∀ j, j < rs.length → cel rs j c ≠ some v) :
    NoCl m.toNat (setC rs i c (some v)) rl ∧ ∀ {k a b}, Jn m.toNat (setC rs i c (some v)) rl k a b → Jn m.toNat rs rl k a b := by
  have dn : ∀ {k a b}, Jn m.toNat (setC rs i c (some v)) rl k a b → Jn m.toNat rs rl k a b := fun h => jn_mono setC_len.symm (fun k a b u h1 h2 h3 e1 e2 => by
    rw [setC_len] at h2 h3
    rw [cel_set ht hi hc] at e1 e2
    by_cases q1 : a = i ∧ k = c <;> by_cases q2 : b = i ∧ k = c
    · rw [q1.1, q2.1]; exact .refl h1 hi
    · rw [if_pos q1] at e1
      rw [if_neg q2, q1.2, ← e1] at e2
      exact absurd e2 (hv b h3)
    · rw [if_pos q2] at e2
      rw [if_neg q1, q2.2, ← e2] at e1
      exact absurd e1 (hv a h2)
    · rw [if_neg q1] at e1
      rw [if_neg q2] at e2
      exact .val h1 h2 h3 e1 e2) h
  refine ⟨fun k a b u w jn e1 e2 => ?_, dn⟩
  have jn := dn jn
  rw [cel_set ht hi hc] at e1 e2
  by_cases q1 : a = i ∧ k = c <;> by_cases q2 : b = i ∧ k = c
  · rw [if_pos q1] at e1
    rw [if_pos q2] at e2
    exact Option.some.inj (e1.symm.trans e2)
  · rw [if_neg q2] at e2
    rw [q1.1, q1.2] at jn
    rw [q1.2] at e2
    exact absurd e2 (fr b w jn)
  · rw [if_neg q1] at e1
    rw [q2.1, q2.2] at jn
    rw [q2.2] at e1
    exact absurd e1 (fr a u jn.symm)
  · rw [if_neg q1] at e1
    rw [if_neg q2] at e2
    exact no k a b u w jn e1 e2
/-- two free cells of two columns, both written with a new value -/
theorem free_two {m : Int} {rs : List Cells} {rl : List Rule} (ht : TabOk m rs) {i c a b : Nat} {v : Int} (hi : i < rs.length) (hc : c < m.toNat) (ha : a < rs.length) (hb : b < m.toNat) (v0 : 0 ≤ v ∧ v ≤ 9999) (ne : c ≠ b) (no : NoCl m.toNat rs rl) (f1 : ∀ j u, Jn m.toNat rs rl c i j → cel rs j c ≠ some u) (f2 : ∀ j u, Jn m.toNat rs rl b a j → cel rs j b ≠ some u)
    (hv : ∀ j k, j < rs.length → cel rs j k ≠ some v) : hasF m.toNat (setC (setC rs i c (some v)) a b (some v)) rl = true := by
  obtain ⟨n1, d1⟩ := fill_free ht hi hc no f1 fun j hj => hv j c hj
  have ht2 : TabOk m (setC rs i c (some v)) := set_ok ht hi (fun u hu => by cases hu; exact v0)
  have nb : ∀ j, cel (setC rs i c (some v)) j b = cel rs j b := fun j => by
    rw [cel_set ht hi hc, if_neg fun z => ne z.2.symm]
  refine hasF_iff.mpr (fill_free ht2 (by rw [setC_len]; exact ha) hb n1 (fun j u jn => ?_) fun j hj => ?_).1
  · rw [nb]; exact f2 j u (d1 jn)
  · rw [nb]; rw [setC_len] at hj; exact hv j b hj
/-! marks as a table: what is equal is joined -/
def tabOf (m n : Nat) (M : Marks) : List Cells := (List.range n).map fun k => (List.range m).map fun c => some ((mrk M c k : Nat) : Int)
theorem tabOf_len {m n : Nat} {M : Marks} : (tabOf m n M).length = n := by unfold tabOf; simp
theorem tabOf_cel {m n : Nat} {M : Marks} {k c : Nat} (hk : k < n) (hc : c < m) : cel (tabOf m n M) k c = some ((mrk M c k : Nat) : Int) := by
  have e : (tabOf m n M).getD k [] = (List.range m).map fun c => some ((mrk M c k : Nat) : Int) := by
    unfold tabOf
    rw [List.getD_eq_getElem?_getD, List.getElem?_map, List.getElem?_range hk]
    rfl
  unfold cel
  rw [e]
  unfold at_
  simp [hc]
theorem tabOf_ok {m : Int} {n : Nat} {M : Marks} (m1 : 1 ≤ m) (m5 : m ≤ 5) (n8 : n ≤ 8) (le : ∀ c k, c < m.toNat → k < n → mrk M c k ≤ k) : TabOk m (tabOf m.toNat n M) := by
  refine ⟨m1, m5, by rw [tabOf_len]; exact n8, fun r hr => ?_⟩
  unfold tabOf at hr
  obtain ⟨k, hk, rfl⟩ := List.mem_map.mp hr
  have hk := List.mem_range.mp hk
  refine ⟨by rw [List.length_map, List.length_range]; omega, fun x hx v hv => ?_⟩
  obtain ⟨c, hc, rfl⟩ := List.mem_map.mp hx
  have hc := List.mem_range.mp hc
  have := le c k hc hk
  cases hv
  omega
theorem tabOf_IG {m n : Nat} {M : Marks} {rl : List Rule} (hs : Shp m n M) (le : ∀ c i, c < m → i < n → mrk M c i ≤ i ∧ mrk M c (mrk M c i) = mrk M c i) : IG m (tabOf m n M) rl M := by
  refine ⟨by rw [tabOf_len]; exact hs, fun c i hc hi => le c i hc (by rw [tabOf_len] at hi; exact hi), fun c i j hc hi hj e => ?_, fun c i j v hc hi hj e1 e2 => ?_⟩
  · rw [tabOf_len] at hi hj
    exact .val hc (by rw [tabOf_len]; exact hi) (by rw [tabOf_len]; exact hj) (v := ((mrk M c i : Nat) : Int)) (tabOf_cel hi hc) (by rw [tabOf_cel hj hc, e])
  · rw [tabOf_len] at hi hj
    rw [tabOf_cel hi hc] at e1
    rw [tabOf_cel hj hc] at e2
    cases e1
    have := Option.some.inj e2
    omega
theorem lower_eq {a b x y : Nat} (h : lower (min a b) (max a b) x = lower (min a b) (max a b) y) : x = y ∨ ((x = a ∨ x = b) ∧ (y = a ∨ y = b)) := by
  unfold lower at h
  split at h <;> split at h <;> omega
section
variable {m : Int} {rs : List Cells} {rl : List Rule} {G : Marks} {i a c : Nat}
/-- what the marks with two more cells joined join is joined where both cells have one value -/
theorem pair_sub (ht : TabOk m rs) (hG : JM m.toNat rs rl G) (hi : i < rs.length) (ha : a < rs.length) (hc : c < m.toNat) {v : Int} (v0 : 0 ≤ v ∧ v ≤ 9999) (vi : cel rs i c = none ∨ cel rs i c = some v) (va : cel rs a c = none ∨ cel rs a c = some v) {k p q : Nat} (h : Jn m.toNat (tabOf m.toNat rs.length (stepG G c i a)) rl k p q) :
    Jn m.toNat (setC (setC rs i c (some v)) a c (some v)) rl k p q := by
  have ht2 : TabOk m (setC rs i c (some v)) := set_ok ht hi (fun u hu => by cases hu; exact v0)
  have ha2 : a < (setC rs i c (some v)).length := by rw [setC_len]; exact ha
  have l2 : (setC (setC rs i c (some v)) a c (some v)).length = rs.length := by rw [setC_len, setC_len]
  have ce : ∀ x y, cel (setC (setC rs i c (some v)) a c (some v)) x y = if (x = a ∨ x = i) ∧ y = c then some v else cel rs x y := fun x y => by
    rw [cel_set ht2 ha2 hc, cel_set ht hi hc]
    by_cases q1 : x = a ∧ y = c
    · rw [if_pos q1, if_pos ⟨.inl q1.1, q1.2⟩]
    · rw [if_neg q1]
      by_cases q2 : x = i ∧ y = c
      · rw [if_pos q2, if_pos ⟨.inr q2.1, q2.2⟩]
      · rw [if_neg q2, if_neg]
        rintro ⟨z | z, y⟩
        · exact q1 ⟨z, y⟩
        · exact q2 ⟨z, y⟩
  have old : ∀ x y u, cel rs x y = some u → cel (setC (setC rs i c (some v)) a c (some v)) x y = some u := fun x y u e => by
    rw [ce]
    split
    · rename_i z
      rcases z with ⟨z | z, y⟩
      · rw [z, y] at e
        rcases va with w | w
        · rw [w] at e; cases e
        · rw [w] at e; exact e
      · rw [z, y] at e
        rcases vi with w | w
        · rw [w] at e; cases e
        · rw [w] at e; exact e
    · exact e
  have up : ∀ {k p q}, Jn m.toNat rs rl k p q → Jn m.toNat (setC (setC rs i c (some v)) a c (some v)) rl k p q := fun h => jn_mono l2 (fun k p q u h1 h2 h3 e1 e2 => .val h1 (by rw [l2]; exact h2) (by rw [l2]; exact h3) (old _ _ _ e1) (old _ _ _ e2)) h
  have ia : Jn m.toNat (setC (setC rs i c (some v)) a c (some v)) rl c i a := .val hc (by rw [l2]; exact hi) (by rw [l2]; exact ha) (v := v) (by rw [ce, if_pos ⟨.inr rfl, rfl⟩]) (by rw [ce, if_pos ⟨.inl rfl, rfl⟩])
  refine jn_mono (by rw [l2, tabOf_len]) (fun k p q u h1 h2 h3 e1 e2 => ?_) h
  rw [tabOf_len] at h2 h3
  rw [tabOf_cel h2 h1] at e1
  rw [tabOf_cel h3 h1] at e2
  have em : mrk (stepG G c i a) k p = mrk (stepG G c i a) k q := by
    have := e1.trans e2.symm
    have := Option.some.inj this
    omega
  rw [step_mk hG.shp hc k p h1 h2, step_mk hG.shp hc k q h1 h3] at em
  by_cases kc : k = c
  · subst kc
    rw [if_pos rfl, if_pos rfl] at em
    rcases lower_eq em with z | ⟨z1, z2⟩
    · exact up ((hG.iff _ p q h1 h2 h3).mp z)
    · have f : ∀ x, x < rs.length → (mrk G k x = mrk G k i ∨ mrk G k x = mrk G k a) → Jn m.toNat (setC (setC rs i k (some v)) a k (some v)) rl k x i := fun x hx z => by
        rcases z with z | z
        · exact up ((hG.iff k x i h1 hx hi).mp z)
        · exact .trans (up ((hG.iff k x a h1 hx ha).mp z)) (.symm ia)
      exact .trans (f p h2 z1) (.symm (f q h3 z2))
  · rw [if_neg kc, if_neg kc] at em
    exact up ((hG.iff k p q h1 h2 h3).mp em)
theorem pair_cel (ht : TabOk m rs) (hi : i < rs.length) (ha : a < rs.length) (hc : c < m.toNat) {v : Int} (v0 : 0 ≤ v ∧ v ≤ 9999) : ∀ x y, cel (setC (setC rs i c (some v)) a c (some v)) x y = if (x = a ∨ x = i) ∧ y = c then some v else cel rs x y := fun x y => by
  have ht2 : TabOk m (setC rs i c (some v)) := set_ok ht hi (fun u hu => by cases hu; exact v0)
  have ha2 : a < (setC rs i c (some v)).length := by rw [setC_len]; exact ha
  rw [cel_set ht2 ha2 hc, cel_set ht hi hc]
  by_cases q1 : x = a ∧ y = c
  · rw [if_pos q1, if_pos ⟨.inl q1.1, q1.2⟩]
  · rw [if_neg q1]
    by_cases q2 : x = i ∧ y = c
    · rw [if_pos q2, if_pos ⟨.inr q2.1, q2.2⟩]
    · rw [if_neg q2, if_neg]
      rintro ⟨z | z, y⟩
      · exact q1 ⟨z, y⟩
      · exact q2 ⟨z, y⟩
theorem pair_old (ht : TabOk m rs) (hi : i < rs.length) (ha : a < rs.length) (hc : c < m.toNat) {v : Int} (v0 : 0 ≤ v ∧ v ≤ 9999) (vi : cel rs i c = none ∨ cel rs i c = some v) (va : cel rs a c = none ∨ cel rs a c = some v) : ∀ x y u, cel rs x y = some u → cel (setC (setC rs i c (some v)) a c (some v)) x y = some u := fun x y u e => by
  rw [pair_cel ht hi ha hc v0]
  split
  · rename_i z
    rcases z with ⟨z | z, y⟩
    · rw [z, y] at e
      rcases va with w | w
      · rw [w] at e; cases e
      · rw [w] at e; exact e
    · rw [z, y] at e
      rcases vi with w | w
      · rw [w] at e; cases e
      · rw [w] at e; exact e
  · exact e
theorem tab_mark (hG : JM m.toNat rs rl G) (hi : i < rs.length) (ha : a < rs.length) (hc : c < m.toNat) {k p q : Nat} (hk : k < m.toNat) (hp : p < rs.length) (hq : q < rs.length) (e : mrk G k p = mrk G k q) : Jn m.toNat (tabOf m.toNat rs.length (stepG G c i a)) rl k p q := by
  refine .val hk (by rw [tabOf_len]; exact hp) (by rw [tabOf_len]; exact hq) (v := ((mrk (stepG G c i a) k p : Nat) : Int)) (tabOf_cel hp hk) ?_
  rw [tabOf_cel hq hk, step_mk hG.shp hc k p hk hp, step_mk hG.shp hc k q hk hq, e]
theorem tab_pair (hG : JM m.toNat rs rl G) (hi : i < rs.length) (ha : a < rs.length) (hc : c < m.toNat) : Jn m.toNat (tabOf m.toNat rs.length (stepG G c i a)) rl c i a := by
  refine .val hc (by rw [tabOf_len]; exact hi) (by rw [tabOf_len]; exact ha) (v := ((mrk (stepG G c i a) c i : Nat) : Int)) (tabOf_cel hi hc) ?_
  rw [tabOf_cel ha hc, step_mk hG.shp hc c i hc hi, step_mk hG.shp hc c a hc ha, if_pos rfl, if_pos rfl]
  have : lower (min (mrk G c i) (mrk G c a)) (max (mrk G c i) (mrk G c a)) (mrk G c a) = lower (min (mrk G c i) (mrk G c a)) (max (mrk G c i) (mrk G c a)) (mrk G c i) := by
    unfold lower
    split <;> split <;> omega
  rw [this]
theorem pair_sup (ht : TabOk m rs) (hG : JM m.toNat rs rl G) (hi : i < rs.length) (ha : a < rs.length) (hc : c < m.toNat) {v : Int} (v0 : 0 ≤ v ∧ v ≤ 9999) (B : ∀ j, j < rs.length → cel rs j c = some v → Jn m.toNat (tabOf m.toNat rs.length (stepG G c i a)) rl c j i) {k p q : Nat} (h : Jn m.toNat (setC (setC rs i c (some v)) a c (some v)) rl k p q) :
    Jn m.toNat (tabOf m.toNat rs.length (stepG G c i a)) rl k p q := by
  have l2 : (setC (setC rs i c (some v)) a c (some v)).length = rs.length := by rw [setC_len, setC_len]
  refine jn_mono (by rw [l2, tabOf_len]) (fun k p q u h1 h2 h3 e1 e2 => ?_) h
  rw [l2] at h2 h3
  rw [pair_cel ht hi ha hc v0] at e1 e2
  have sp : ∀ x, (x = a ∨ x = i) → Jn m.toNat (tabOf m.toNat rs.length (stepG G c i a)) rl c x i := fun x z => by
    rcases z with z | z
    · rw [z]; exact .symm (tab_pair hG hi ha hc)
    · rw [z]; exact .refl hc (by rw [tabOf_len]; exact hi)
  by_cases q1 : (p = a ∨ p = i) ∧ k = c <;> by_cases q2 : (q = a ∨ q = i) ∧ k = c
  · rw [q1.2]; exact .trans (sp p q1.1) (.symm (sp q q2.1))
  · rw [if_pos q1] at e1
    rw [if_neg q2, ← e1, q1.2] at e2
    rw [q1.2]
    exact .trans (sp p q1.1) (.symm (B q h3 e2))
  · rw [if_pos q2] at e2
    rw [if_neg q1, ← e2, q2.2] at e1
    rw [q2.2]
    exact .trans (B p h2 e1) (.symm (sp q q2.1))
  · rw [if_neg q1] at e1
    rw [if_neg q2] at e2
    exact tab_mark hG hi ha hc h1 h2 h3 ((hG.iff k p q h1 h2 h3).mpr (.val h1 h2 h3 e1 e2))
variable {G' : Marks}
theorem pair_clash (hG' : JM m.toNat (tabOf m.toNat rs.length (stepG G c i a)) rl G') : clash rs G' = false ↔ ∀ k p q u w, Jn m.toNat (tabOf m.toNat rs.length (stepG G c i a)) rl k p q → cel rs p k = some u → cel rs q k = some w → u = w := by
  have hs : Shp m.toNat rs.length G' := by
    have := hG'.shp
    rw [tabOf_len] at this
    exact this
  have key := clash_iff hs
  constructor
  · intro h k p q u w jn e1 e2
    refine Decidable.byContradiction fun ne => ?_
    obtain ⟨h1, h2, h3⟩ := jn_in jn
    rw [tabOf_len] at h2 h3
    have := key.mpr ⟨k, p, q, u, w, h1, h2, h3, (hG'.iff k p q h1 (by rw [tabOf_len]; exact h2) (by rw [tabOf_len]; exact h3)).mpr jn, e1, e2, ne⟩
    rw [h] at this
    cases this
  · intro h
    cases e : clash rs G' with
    | false => rfl
    | true =>
      obtain ⟨k, p, q, u, w, h1, h2, h3, e0, e1, e2, ne⟩ := key.mp e
      exact absurd (h k p q u w ((hG'.iff k p q h1 (by rw [tabOf_len]; exact h2) (by rw [tabOf_len]; exact h3)).mp e0) e1 e2) ne
theorem pair_T1 (ht : TabOk m rs) (hG : JM m.toNat rs rl G) (hG' : JM m.toNat (tabOf m.toNat rs.length (stepG G c i a)) rl G') (hi : i < rs.length) (ha : a < rs.length) (hc : c < m.toNat) {v : Int} (v0 : 0 ≤ v ∧ v ≤ 9999) (vi : cel rs i c = none ∨ cel rs i c = some v) (va : cel rs a c = none ∨ cel rs a c = some v)
    (h : hasF m.toNat (setC (setC rs i c (some v)) a c (some v)) rl = true) : clash rs G' = false := by
  refine (pair_clash hG').mpr fun k p q u w jn e1 e2 => ?_
  exact hasF_iff.mp h k p q u w (pair_sub ht hG hi ha hc v0 vi va jn) (pair_old ht hi ha hc v0 vi va _ _ _ e1) (pair_old ht hi ha hc v0 vi va _ _ _ e2)
theorem pair_T2 (ht : TabOk m rs) (hG : JM m.toNat rs rl G) (hG' : JM m.toNat (tabOf m.toNat rs.length (stepG G c i a)) rl G') (hi : i < rs.length) (ha : a < rs.length) (hc : c < m.toNat) {v : Int} (v0 : 0 ≤ v ∧ v ≤ 9999) (B : ∀ j, j < rs.length → cel rs j c = some v → Jn m.toNat (tabOf m.toNat rs.length (stepG G c i a)) rl c j i)
    (one : ∀ k w, Jn m.toNat (tabOf m.toNat rs.length (stepG G c i a)) rl c i k → cel rs k c = some w → w = v) (h : clash rs G' = false) : hasF m.toNat (setC (setC rs i c (some v)) a c (some v)) rl = true := by
  have no := (pair_clash hG').mp h
  refine hasF_iff.mpr fun k p q u w jn e1 e2 => ?_
  have jn := pair_sup ht hG hi ha hc v0 B jn
  rw [pair_cel ht hi ha hc v0] at e1 e2
  have sp : ∀ x, (x = a ∨ x = i) → Jn m.toNat (tabOf m.toNat rs.length (stepG G c i a)) rl c i x := fun x z => by
    rcases z with z | z
    · rw [z]; exact tab_pair hG hi ha hc
    · rw [z]; exact .refl hc (by rw [tabOf_len]; exact hi)
  by_cases q1 : (p = a ∨ p = i) ∧ k = c <;> by_cases q2 : (q = a ∨ q = i) ∧ k = c
  · rw [if_pos q1] at e1
    rw [if_pos q2] at e2
    exact Option.some.inj (e1.symm.trans e2)
  · rw [if_pos q1] at e1
    rw [if_neg q2, q1.2] at e2
    rw [q1.2] at jn
    cases e1
    exact (one q w (.trans (sp p q1.1) jn) e2).symm
  · rw [if_neg q1, q2.2] at e1
    rw [if_pos q2] at e2
    rw [q2.2] at jn
    cases e2
    exact one p u (.trans (sp q q2.1) (.symm jn)) e1
  · rw [if_neg q1] at e1
    rw [if_neg q2] at e2
    exact no k p q u w jn e1 e2
/-- both cells have a value, and they differ -/
theorem pair_both (hG : JM m.toNat rs rl G) (hG' : JM m.toNat (tabOf m.toNat rs.length (stepG G c i a)) rl G') (hi : i < rs.length) (ha : a < rs.length) (hc : c < m.toNat) {u w : Int} (h1 : kn rs G i c = some u) (h2 : kn rs G a c = some w) (ne : u ≠ w) : clash rs G' = true := by
  cases e : clash rs G' with
  | true => rfl
  | false =>
    obtain ⟨j, hj, e1, e2⟩ := kn_some h1
    obtain ⟨k, hk, e3, e4⟩ := kn_some h2
    exact absurd ((pair_clash hG').mp e c j k u w (.trans (tab_mark hG hi ha hc hc hj hi e1) (.trans (tab_pair hG hi ha hc) (.symm (tab_mark hG hi ha hc hc hk ha e3)))) e2 e4) ne
end
section
variable {m : Int} {rs : List Cells} {rl : List Rule} {G G' : Marks} {i a c b : Nat}
theorem kn_cel (hG : JM m.toNat rs rl G) (nc : clash rs G = false) (hi : i < rs.length) (hc : c < m.toNat) {u : Int} (h : kn rs G i c = some u) : cel rs i c = none ∨ cel rs i c = some u := by
  obtain ⟨j, hj, e1, e2⟩ := kn_some h
  cases e : cel rs i c with
  | none => exact .inl rfl
  | some w =>
    have := (noCl_iff hG).mp nc c j i u w ((hG.iff c j i hc hj hi).mp e1) e2 e
    rw [this]
    exact .inr rfl
theorem pair_one (ht : TabOk m rs) (hG : JM m.toNat rs rl G) (nc : clash rs G = false) (hG' : JM m.toNat (tabOf m.toNat rs.length (stepG G c i a)) rl G') (hi : i < rs.length) (ha : a < rs.length) (hc : c < m.toNat) {u : Int} (hk : (kn rs G i c = some u ∧ kn rs G a c = none) ∨ (kn rs G i c = none ∧ kn rs G a c = some u)) :
    hasF m.toNat (setC (setC rs i c (some u)) a c (some u)) rl = !clash rs G' := by
  have vi : cel rs i c = none ∨ cel rs i c = some u := by
    rcases hk with ⟨z, _⟩ | ⟨z, _⟩
    · exact kn_cel hG nc hi hc z
    · exact .inl (kn_none z i hi rfl)
  have va : cel rs a c = none ∨ cel rs a c = some u := by
    rcases hk with ⟨_, z⟩ | ⟨_, z⟩
    · exact .inl (kn_none z a ha rfl)
    · exact kn_cel hG nc ha hc z
  have ex : ∃ j, j < rs.length ∧ cel rs j c = some u ∧ Jn m.toNat (tabOf m.toNat rs.length (stepG G c i a)) rl c j i := by
    rcases hk with ⟨z, _⟩ | ⟨_, z⟩
    · obtain ⟨j, hj, e1, e2⟩ := kn_some z
      exact ⟨j, hj, e2, tab_mark hG hi ha hc hc hj hi e1⟩
    · obtain ⟨j, hj, e1, e2⟩ := kn_some z
      exact ⟨j, hj, e2, .trans (tab_mark hG hi ha hc hc hj ha e1) (.symm (tab_pair hG hi ha hc))⟩
  obtain ⟨j, hj, ej, jj⟩ := ex
  have v0 : 0 ≤ u ∧ u ≤ 9999 := by
    obtain ⟨h2, e2⟩ := cel_at ht hj hc
    have hx : rs.getD j [] ∈ rs := by
      rw [List.getD_eq_getElem?_getD, List.getElem?_eq_getElem hj]
      exact List.getElem_mem _
    exact (ht.rows _ hx).2 _ (List.getElem_mem h2) u (by rw [← e2]; exact ej)
  have B : ∀ k, k < rs.length → cel rs k c = some u → Jn m.toNat (tabOf m.toNat rs.length (stepG G c i a)) rl c k i := fun k hk e =>
    .trans (tab_mark hG hi ha hc hc hk hj ((hG.iff c k j hc hk hj).mpr (.val hc hk hj e ej))) jj
  cases e : clash rs G' with
  | false => exact pair_T2 ht hG hG' hi ha hc v0 B (fun k w jn ek => ((pair_clash hG').mp e c j k u w (.trans jj jn) ej ek).symm) e
  | true =>
    cases f : hasF m.toNat (setC (setC rs i c (some u)) a c (some u)) rl with
    | false => rfl
    | true =>
      have := pair_T1 ht hG hG' hi ha hc v0 vi va f
      rw [e] at this
      cases this
theorem pair_free (ht : TabOk m rs) (hG : JM m.toNat rs rl G) (hG' : JM m.toNat (tabOf m.toNat rs.length (stepG G c i a)) rl G') (hi : i < rs.length) (ha : a < rs.length) (hc : c < m.toNat) (k1 : kn rs G i c = none) (k2 : kn rs G a c = none) (z5 : ∀ j k, j < rs.length → cel rs j k ≠ some 5000) :
    ((5000 : Int) :: rs.filterMap fun r => at_ r (c : Nat)).any (fun x => hasF m.toNat (setC (setC rs i c (some x)) a c (some x)) rl) = !clash rs G' := by
  have ni : cel rs i c = none := kn_none k1 i hi rfl
  have na : cel rs a c = none := kn_none k2 a ha rfl
  have vok : ∀ x ∈ ((5000 : Int) :: rs.filterMap fun r => at_ r (c : Nat)), 0 ≤ x ∧ x ≤ 9999 := fun x hx => by
    rcases List.mem_cons.mp hx with z | z
    · omega
    · obtain ⟨j, hj, ej⟩ := mem_col.mp z
      obtain ⟨h2, e2⟩ := cel_at ht hj hc
      have hx : rs.getD j [] ∈ rs := by
        rw [List.getD_eq_getElem?_getD, List.getElem?_eq_getElem hj]
        exact List.getElem_mem _
      exact (ht.rows _ hx).2 _ (List.getElem_mem h2) x (by rw [← e2]; exact ej)
  cases e : clash rs G' with
  | true =>
    cases f : ((5000 : Int) :: rs.filterMap fun r => at_ r (c : Nat)).any (fun x => hasF m.toNat (setC (setC rs i c (some x)) a c (some x)) rl) with
    | false => rfl
    | true =>
      obtain ⟨x, hx, fx⟩ := List.any_eq_true.mp f
      have := pair_T1 ht hG hG' hi ha hc (vok x hx) (.inl ni) (.inl na) fx
      rw [e] at this
      cases this
  | false =>
    refine List.any_eq_true.mpr ?_
    by_cases ex : ∃ j u, Jn m.toNat (tabOf m.toNat rs.length (stepG G c i a)) rl c i j ∧ cel rs j c = some u
    · obtain ⟨j, u, jn, ej⟩ := ex
      have hj : j < rs.length := by have := (jn_in jn).2.2; rw [tabOf_len] at this; exact this
      have hu : u ∈ ((5000 : Int) :: rs.filterMap fun r => at_ r (c : Nat)) := List.mem_cons_of_mem _ (mem_col.mpr ⟨j, hj, ej⟩)
      refine ⟨u, hu, pair_T2 ht hG hG' hi ha hc (vok u hu) (fun k hk ek => ?_) (fun k w jk ek => ?_) e⟩
      · exact .trans (tab_mark hG hi ha hc hc hk hj ((hG.iff c k j hc hk hj).mpr (.val hc hk hj ek ej))) (.symm jn)
      · exact (pair_clash hG').mp e c k j w u (.trans (.symm jk) jn) ek ej
    · refine ⟨5000, List.mem_cons_self, pair_T2 ht hG hG' hi ha hc (by decide) (fun k hk ek => absurd ek (z5 k c hk)) (fun k w jk ek => absurd ⟨k, w, jk, ek⟩ ex) e⟩
/-- one of two cells of two columns has a value: both are written with it -/
theorem two_one (ht : TabOk m rs) (hG : JM m.toNat rs rl G) (nc : clash rs G = false) (hi : i < rs.length) (ha : a < rs.length) (hc : c < m.toNat) (hb : b < m.toNat) (ne : ¬ (a = i ∧ b = c)) {u : Int} (k1 : kn rs G i c = some u) (k2 : kn rs G a b = none) :
    hasF m.toNat (setC (setC rs i c (some u)) a b (some u)) rl = canB m.toNat rs rl a b u := by
  have na : cel rs a b = none := kn_none k2 a ha rfl
  obtain ⟨j, hj, e1, e2⟩ := kn_some k1
  have v0 : 0 ≤ u ∧ u ≤ 9999 := by
    obtain ⟨h2, e3⟩ := cel_at ht hj hc
    have hx : rs.getD j [] ∈ rs := by
      rw [List.getD_eq_getElem?_getD, List.getElem?_eq_getElem hj]
      exact List.getElem_mem _
    exact (ht.rows _ hx).2 _ (List.getElem_mem h2) u (by rw [← e3]; exact e2)
  have ht2 : TabOk m (setC rs a b (some u)) := set_ok ht ha (fun w hw => by cases hw; exact v0)
  have old : ∀ x y w, cel rs x y = some w → cel (setC rs a b (some u)) x y = some w := fun x y w e => by
    rw [cel_set ht ha hb]
    split
    · rename_i q
      rw [q.1, q.2, na] at e
      cases e
    · exact e
  have jn : Jn m.toNat (setC rs a b (some u)) rl c i j := jn_mono setC_len (fun k p q w h1 h2 h3 f1 f2 => .val h1 (by rw [setC_len]; exact h2) (by rw [setC_len]; exact h3) (old _ _ _ f1) (old _ _ _ f2)) ((hG.iff c i j hc hi hj).mp e1.symm)
  have f := fill_known ht2 (i := i) (c := c) (u := u) (by rw [setC_len]; exact hi) hc jn (old _ _ _ e2) (by
    rw [cel_set ht ha hb, if_neg fun z => ne ⟨z.1.symm, z.2.symm⟩]
    exact kn_cel hG nc hi hc k1)
  rw [setC_comm hi ha ne, f]
  unfold canB
  rw [na]
  rfl
end
end B

namespace B
open PySem PySem.Spec PyProof.Rows L2 Dw
local macro_rules | `(tactic| walk_at "ds") => `(tactic| try dsimp only [wRet, wRetN, sPu, wThenX, wIfX, wRetX, wDropX, wSetX, wCallX, wCallP, uPu, wPu, uConsX, wRaise, wDc, wDcT, wDZ, wD1, wGet1, wGet2, wGetT, wThen, wIfS, wIf, wNotT, wTru, wB, w2, wV, wC, wCons, wNil, wCall, wCallO, wCallO1, endO, wCB, wLc, wSeq, wYes, wNext, wNever, wDrop, wSet, wAsg, wPair, wFor, wTup, wLst, wAndV, wOrV, wNotV, wNeg, wAndT, wOrT, wIsi, wChain, wSlice, wPart, wNo, wZip, wEnum, wRng1, wRng2, wLc2, wApp, wApp1, wPop, wPop1, wExt, wExt1, wSetI, wSetI1, wSetD, wIdx, wIdx1, wExtL, wExtL1, wLenM, wNotInM, wGetM, wPutM, wPutM1, wSetK, wTri, wForget, rCatTD, rCatLD, intsR, Option.map_some, bN, bTup, bCons, bNil, as_d, as_l, as_b, noB_d, noB_l, still_d, still_l, still_b, put_d, put_l, tru_bool, tru_tup, tru_lst, isT_tup, isI_int, isB_int, stillA_nil, stillA_cons, map0, map1, map2, map3, len_l, len_t, tup_l, tup_t, lst_l, lst_t, max_i, min_i, List.all_cons, List.all_nil, Bool.and_self, Bool.and_true, Bool.not_true, Bool.not_false, List.getElem?_cons_zero, List.getElem?_cons_succ, List.cons_append, List.nil_append, List.append_nil, List.reduceReplicate, Nat.reduceSub, Nat.sub_self, rI1, rI2, rAddD, rSubD, rMulD, rDivD, rModD, rPowD, rLtD, rLeD, rGtD, rGeD, List.set_cons_zero, List.set_cons_succ, List.set_nil, endsOf, outD, wipeD])
noncomputable def meetB (m : Nat) (rs : List Cells) (rl : List Rule) (G : Marks) (i c a b : Nat) : Bool := match kn rs G i c, kn rs G a b with
  | some u, some w => decide (u = w)
  | some u, none => hasF m (setC (setC rs i c (some u)) a b (some u)) rl
  | none, some u => hasF m (setC (setC rs i c (some u)) a b (some u)) rl
  | none, none => ((5000 : Int) :: rs.filterMap fun r => at_ r (c : Nat)).any fun x => hasF m (setC (setC rs i c (some x)) a b (some x)) rl
def wordD (k : Bool) : PyData := if k = true then .str "sometimes" else .str "never"
noncomputable def dueW (m : Nat) (rs : List Cells) (rl : List Rule) (G : Marks) (i c a b : Nat) : PyData := if c = b ∧ mrk G c i = mrk G b a then .str "always" else if (kn rs G i c).isSome = true ∧ kn rs G i c = kn rs G a b then .str "always" else wordD (meetB m rs rl G i c a b)
def N5 (rs : List Cells) : Prop := ∀ r ∈ rs, (some 5000 : Option Int) ∉ r
def S_column_relation : WE := fun δ P => ∃ (m : Int) (rs : List Cells) (rl : List Rule) (G : Marks) (i a c : Nat), δ = [.d (tabD m rs), .d (rulesD rl), .d (.list (marksD G)), .d (.int (c : Nat)), .d (pairD (i, a))] ∧ TabOk m rs ∧ RulesOk m rl ∧ JM m.toNat rs rl G ∧ clash rs G = false ∧ N5 rs ∧ i < rs.length ∧ a < rs.length ∧ c < m.toNat ∧ P (.d (dueW m.toNat rs rl G i c a c)) δ
def S_known_relation : WE := fun δ P => ∃ (m : Int) (rs : List Cells) (rl : List Rule) (i c : Nat) (v : Int), δ = [.d (tabD m rs), .d (rulesD rl), .d (.int v), .d (pairD (i, c))] ∧ TabOk m rs ∧ RulesOk m rl ∧ i < rs.length ∧ c < m.toNat ∧ 0 ≤ v ∧ v ≤ 9999 ∧ P (.d (wordD (canB m.toNat rs rl i c v))) δ
def S_relation : WE := fun δ P => ∃ (m : Int) (rs : List Cells) (rl : List Rule) (i c a b : Nat), δ = [.d (tabD m rs), .d (rulesD rl), .d (pairD (i, c)), .d (pairD (a, b))] ∧ TabOk m rs ∧ RulesOk m rl ∧ hasF m.toNat rs rl = true ∧ N5 rs ∧ i < rs.length ∧ c < m.toNat ∧ a < rs.length ∧ b < m.toNat ∧ ∀ G, JM m.toNat rs rl G → clash rs G = false → P (.d (dueW m.toNat rs rl G i c a b)) δ
def S_law_value : WE := fun δ P => ∃ (m : Int) (rs : List Cells) (G : Marks) (i c : Nat), δ = [.d (rowsD rs), .d (.list (marksD G)), .d (pairD (i, c))] ∧ TabOk m rs ∧ Shp m.toNat rs.length G ∧ clash rs G = false ∧ i < rs.length ∧ c < m.toNat ∧ P (.d (cellD (kn rs G i c))) δ
def S_law_meets : WE := fun δ P => ∃ (m : Int) (rs : List Cells) (rl : List Rule) (G : Marks) (i c a b : Nat), δ = [.d (.int m), .d (rowsD rs), .d (rulesD rl), .d (pairD (i, c)), .d (pairD (a, b))] ∧ TabOk m rs ∧ RulesOk m rl ∧ JM m.toNat rs rl G ∧ clash rs G = false ∧ i < rs.length ∧ c < m.toNat ∧ a < rs.length ∧ b < m.toNat ∧ P (.d (.bool (meetB m.toNat rs rl G i c a b))) δ
def S_law_due : WE := fun δ P => ∃ (m : Int) (rs : List Cells) (rl : List Rule) (G : Marks) (i c a b : Nat), δ = [.d (.int m), .d (rowsD rs), .d (rulesD rl), .d (.list (marksD G)), .d (pairD (i, c)), .d (pairD (a, b))] ∧ TabOk m rs ∧ RulesOk m rl ∧ JM m.toNat rs rl G ∧ clash rs G = false ∧ i < rs.length ∧ c < m.toNat ∧ a < rs.length ∧ b < m.toNat ∧ P (.d (dueW m.toNat rs rl G i c a b)) δ
def S_law_are_right : WE := fun δ P => ∃ (xs : List PyData) (n : Nat) (m : Int) (rs : List Cells) (rl : List Rule), δ = [.o xs, .d (.int m), .d (rowsD rs), .d (rulesD rl)] ∧ Pen n xs ∧ n ≤ 900000 ∧ TabOk m rs ∧ RulesOk m rl ∧ hasF m.toNat rs rl = true ∧ N5 rs ∧ ∀ ys, Pen (n + 200) ys → P (.d (.bool true)) [.o ys, .d (.int m), .d (rowsD rs), .d (rulesD rl)]
def S_law : WE := fun δ P => ∃ ns : List Int, δ = [.d (.list (ns.map PyData.int))] ∧ ns.length ≤ 63 ∧ P (.d (.bool true)) δ
/-- slots: 0 table, 1 rules, 2 marks, 3 column, 4 rows, 5 more, 6 row, 7 other -/
def wb_column_relation : WS := (wThen (wAsg (wV 4) (bTup 2 (bCons (bN 6) (bCons (bN 7) bNil))))
      (wThen (wIfS (wTru (wCall S_are_joined (wCons (wV 2) (wCons (wTup (wCons (wV 3) wNil)) (wCons (wV 6) (wCons (wV 7) wNil)))))) (wRet (wC (.str "always"))) wNext)
      (wThen (wSet 5 (wCB rListD (wCons (wV 2) wNil)))
      (wThen (wDrop (wCallO S_join_cells 5 (wCons (wV 3) (wCons (wV 6) (wCons (wV 7) wNil)))))
      (wThen (wDrop (wCallO S_take_all_steps 5 (wCons (wV 1) (wCons (wCB rLenD (wCons (w2 rIxD (wV 0) (wC (.int 1))) wNil)) wNil))))
      (wRet (wIf (wTru (wCallS S_has_clash (wCons (wV 0) (wCons (wV 5) wNil)))) (wC (.str "never")) (wC (.str "sometimes")))))))))
/-- slots: 0 table, 1 rules, 2 value, 3 place -/
def wb_known_relation : WS := (wRet (wIf (wTru (wCall S_can_be (wCons (wV 0) (wCons (wV 1) (wCons (wV 3) (wCons (wV 2) wNil)))))) (wC (.str "sometimes")) (wC (.str "never"))))
/-- slots: 0 table, 1 rules, 2 place, 3 other, 4 marks, 5 known, 6 value, 7 other_value -/
def wb_relation : WS := (wThen (wDrop (wCall S_need_table (wCons (wV 0) wNil)))
      (wThen (wDrop (wCall S_need_rules (wCons (w2 rIxD (wV 0) (wC (.int 0))) (wCons (wV 1) wNil))))
      (wThen (wDrop (wCall S_need_place (wCons (wV 0) (wCons (wV 2) wNil))))
      (wThen (wDrop (wCall S_need_place (wCons (wV 0) (wCons (wV 3) wNil))))
      (wThen (wSetD 4 (wCall S_filling_marks (wCons (wV 0) (wCons (wV 1) wNil))))
      (wThen (wIfS (wB (w2 rEqT (w2 rIxD (wV 2) (wC (.int 1))) (w2 rIxD (wV 3) (wC (.int 1))))) (wRet (wCall S_column_relation (wCons (wV 0) (wCons (wV 1) (wCons (wV 4) (wCons (w2 rIxD (wV 2) (wC (.int 1))) (wCons (wTup (wCons (w2 rIxD (wV 2) (wC (.int 0))) (wCons (w2 rIxD (wV 3) (wC (.int 0))) wNil))) wNil))))))) wNext)
      (wThen (wSet 5 (wCall S_known_rows (wCons (wV 0) (wCons (wV 4) wNil))))
      (wThen (wSet 6 (w2 rIxD (w2 rIxD (wV 5) (w2 rIxD (wV 2) (wC (.int 0)))) (w2 rIxD (wV 2) (wC (.int 1)))))
      (wThen (wSet 7 (w2 rIxD (w2 rIxD (wV 5) (w2 rIxD (wV 3) (wC (.int 0)))) (w2 rIxD (wV 3) (wC (.int 1)))))
      (wThen (wIfS (wAndT (wB (w2 (rIsT false) (wV 6) (wC .none))) (wB (w2 (rIsT false) (wV 7) (wC .none)))) (wRet (wC (.str "sometimes"))) wNext)
      (wThen (wIfS (wB (w2 (rIsT false) (wV 6) (wC .none))) (wRet (wCall S_known_relation (wCons (wV 0) (wCons (wV 1) (wCons (wV 7) (wCons (wV 2) wNil)))))) wNext)
      (wThen (wIfS (wB (w2 (rIsT false) (wV 7) (wC .none))) (wRet (wCall S_known_relation (wCons (wV 0) (wCons (wV 1) (wCons (wV 6) (wCons (wV 3) wNil)))))) wNext)
      (wRet (wIf (wB (w2 rEqT (wV 6) (wV 7))) (wC (.str "always")) (wC (.str "never"))))))))))))))))
/-- slots: 0 law_rows_here, 1 law_groups, 2 law_place, 3 law_own -/
def wb_law_value : WS := (wThen (wSet 3 (wCall S_law_values (wCons (wV 0) (wCons (wV 1) (wCons (w2 rIxD (wV 2) (wC (.int 1))) (wCons (w2 rIxD (w2 rIxD (wV 1) (w2 rIxD (wV 2) (wC (.int 1)))) (w2 rIxD (wV 2) (wC (.int 0)))) wNil))))))
      (wRet (wIf (wB (w2 rNeT (wV 3) (wLst wNil))) (w2 rIxD (wV 3) (wC (.int 0))) (wC .none))))
/-- slots: 0 law_many, 1 law_rows_here, 2 law_rules_here, 3 law_place, 4 law_other, 5 law_groups, 6 law_cell, 7 law_some, 8 law_one, 9 law_value_here, 10 law_its, 11 law_both, 12 law_row -/
def wb_law_meets : WS := (wThen (wSetD 5 (wCall S_law_joined (wCons (wV 0) (wCons (wV 1) (wCons (wV 2) wNil)))))
      (wThen (wPair 9 10 (wCall S_law_value (wCons (wV 1) (wCons (wV 5) (wCons (wV 3) wNil)))) (wCall S_law_value (wCons (wV 1) (wCons (wV 5) (wCons (wV 4) wNil)))))
      (wThen (wIfS (wAndT (wB (w2 (rIsT true) (wV 9) (wC .none))) (wB (w2 (rIsT true) (wV 10) (wC .none)))) (wRet (w2 rEqT (wV 9) (wV 10))) wNext)
      (wThen (wSet 6 (wIf (wB (w2 (rIsT true) (wV 9) (wC .none))) (wV 9) (wV 10)))
      (wThen (wSetD 7 (wLst (wCons (wV 6) wNil)))
      (wThen (wIfS (wB (w2 (rIsT false) (wV 6) (wC .none))) (wSetD 7 (w2 rCatLD (wLst (wCons (wC (.int 5000)) wNil)) (wLc (wSeq (wV 1)) (bN 12) (wB (w2 (rIsT true) (w2 rIxD (wV 12) (w2 rIxD (wV 3) (wC (.int 1)))) (wC .none))) (w2 rIxD (wV 12) (w2 rIxD (wV 3) (wC (.int 1)))) [12]))) wNext)
      (wThen (wFor (wSeq (wV 7)) (bN 8) (wThen (wSet 11 (wCall S_law_with (wCons (wCall S_law_with (wCons (wV 1) (wCons (w2 rIxD (wV 3) (wC (.int 0))) (wCons (w2 rIxD (wV 3) (wC (.int 1))) (wCons (wV 8) wNil))))) (wCons (w2 rIxD (wV 4) (wC (.int 0))) (wCons (w2 rIxD (wV 4) (wC (.int 1))) (wCons (wV 8) wNil))))))
      (wIfS (wTru (wCall S_law_has_filling (wCons (wV 0) (wCons (wV 11) (wCons (wV 2) wNil))))) (wRet (wC (.bool true))) wNext)))
      (wRet (wC (.bool false))))))))))
/-- slots: 0 law_many, 1 law_rows_here, 2 law_rules_here, 3 law_groups, 4 law_place, 5 law_other, 6 law_value_here, 7 law_its -/
def wb_law_due : WS := (wThen (wIfS (wAndT (wB (w2 rEqT (w2 rIxD (wV 4) (wC (.int 1))) (w2 rIxD (wV 5) (wC (.int 1))))) (wB (w2 rEqT (w2 rIxD (w2 rIxD (wV 3) (w2 rIxD (wV 4) (wC (.int 1)))) (w2 rIxD (wV 4) (wC (.int 0)))) (w2 rIxD (w2 rIxD (wV 3) (w2 rIxD (wV 5) (wC (.int 1)))) (w2 rIxD (wV 5) (wC (.int 0))))))) (wRet (wC (.str "always"))) wNext)
      (wThen (wPair 6 7 (wCall S_law_value (wCons (wV 1) (wCons (wV 3) (wCons (wV 4) wNil)))) (wCall S_law_value (wCons (wV 1) (wCons (wV 3) (wCons (wV 5) wNil)))))
      (wThen (wIfS (wAndT (wB (w2 (rIsT true) (wV 6) (wC .none))) (wB (w2 rEqT (wV 6) (wV 7)))) (wRet (wC (.str "always"))) wNext)
      (wRet (wIf (wTru (wCall S_law_meets (wCons (wV 0) (wCons (wV 1) (wCons (wV 2) (wCons (wV 4) (wCons (wV 5) wNil))))))) (wC (.str "sometimes")) (wC (.str "never")))))))
/-- slots: 0 law_pen_here, 1 law_many, 2 law_rows_here, 3 law_rules_here, 4 law_groups, 5 law_places, 6 law_at, 7 law_place, 8 law_other, 9 law_turn, 10 law_due_here, 11 law_told, 12 law_column -/
def wb_law_are_right : WS := (wThen (wSetD 4 (wCall S_law_joined (wCons (wV 1) (wCons (wV 2) (wCons (wV 3) wNil)))))
      (wThen (wSet 5 (wLst wNil))
      (wThen (wFor (wRng1 (wCons (wCB rLenD (wCons (wV 2) wNil)) wNil)) (bN 6) (wDrop (wExtL 5 (wLc (wRng1 (wCons (wV 1) wNil)) (bN 12) wYes (wTup (wCons (wV 6) (wCons (wV 12) wNil))) [12]))))
      (wThen (wFor (wSeq (wLc (wRng1 (wCons (wCB rMin2D (wCons (wC (.int 20)) (wCons (wCB rLenD (wCons (wV 5) wNil)) wNil))) wNil)) (bN 9) wYes (w2 rIxD (wV 5) (wCallO S_law_draw 0 (wCons (wCB rLenD (wCons (wV 5) wNil)) wNil))) [9])) (bN 7) (wFor (wSeq (w2 rCatLD (wLst (wCons (wV 7) wNil)) (wLc (wRng1 (wCons (wC (.int 3)) wNil)) (bN 9) wYes (w2 rIxD (wV 5) (wCallO S_law_draw 0 (wCons (wCB rLenD (wCons (wV 5) wNil)) wNil))) [9]))) (bN 8) (wThen (wSet 10 (wCall S_law_due (wCons (wV 1) (wCons (wV 2) (wCons (wV 3) (wCons (wV 4) (wCons (wV 7) (wCons (wV 8) wNil))))))))
      (wThen (wSetD 11 (wLst (wCons (wCall S_relation (wCons (wTup (wCons (wV 1) (wCons (wV 2) wNil))) (wCons (wV 3) (wCons (wV 7) (wCons (wV 8) wNil))))) (wCons (wCall S_relation (wCons (wTup (wCons (wV 1) (wCons (wV 2) wNil))) (wCons (wV 3) (wCons (wV 8) (wCons (wV 7) wNil))))) wNil))))
      (wIfS (wNotT (wTru (wCall S_law_same (wCons (wV 11) (wCons (wLst (wCons (wV 10) (wCons (wV 10) wNil))) wNil))))) (wRet (wC (.bool false))) wNext)))))
      (wRet (wC (.bool true)))))))
/-- slots: 0 law_script, 1 law_k, 2 law_pen_here, 3 law_lap, 4 law_rules_here, 5 law_rows_here, 6 law_many -/
def wb_law : WS := (wThen (wFor (wRng1 (wCons (wCB rMax2D (wCons (wC (.int 1)) (wCons (wCB rMin2D (wCons (wCB rLenD (wCons (wV 0) wNil)) (wCons (wC (.int 2)) wNil))) wNil))) wNil)) (bN 1) (wThen (wSet 2 (wCall S_law_pen (wCons (wCall S_law_cell_at (wCons (wV 0) (wCons (wV 1) wNil))) wNil)))
      (wThen (wFor (wRng1 (wCons (wC (.int 3)) wNil)) (bN 3) (wThen (wSet 6 (w2 rAddD (wC (.int 1)) (wCallO S_law_draw 2 (wCons (wC (.int 4)) wNil))))
      (wThen (wSet 4 (wCallO S_law_rules 2 (wCons (wV 6) (wCons (wC (.int 4)) wNil))))
      (wThen (wSet 5 (wCallO S_law_kind_rows 2 (wCons (wV 6) (wCons (wC (.int 5)) (wCons (wV 4) wNil)))))
      (wIfS (wAndT (wTru (wCall S_law_has_filling (wCons (wV 6) (wCons (wV 5) (wCons (wV 4) wNil))))) (wNotT (wTru (wCallO S_law_are_right 2 (wCons (wV 6) (wCons (wV 5) (wCons (wV 4) wNil))))))) (wRet (wC (.bool false))) wNext)))))
      (wThen (wSet 4 (wCallO S_law_rules 2 (wCons (wC (.int 5)) (wCons (wC (.int 8)) wNil))))
      (wThen (wSet 5 (wSlice (wCallO S_law_kind_rows 2 (wCons (wC (.int 5)) (wCons (wC (.int 8)) (wCons (wV 4) wNil)))) wNo (wPart (wC (.int 8)))))
      (wIfS (wAndT (wTru (wCall S_law_has_filling (wCons (wC (.int 5)) (wCons (wV 5) (wCons (wV 4) wNil))))) (wNotT (wTru (wCallO S_law_are_right 2 (wCons (wC (.int 5)) (wCons (wV 5) (wCons (wV 4) wNil))))))) (wRet (wC (.bool false))) wNext))))))
      (wRet (wC (.bool true))))
theorem n5_cel {rs : List Cells} (h : N5 rs) : ∀ j k, j < rs.length → cel rs j k ≠ some 5000 := fun j k hj e => by
  have hx : rs.getD j [] ∈ rs := by
    rw [List.getD_eq_getElem?_getD, List.getElem?_eq_getElem hj]
    exact List.getElem_mem _
  exact h _ hx (getD_memS e)
theorem step_le {G : Marks} {m n t i a : Nat} (hs : Shp m n G) (le : ∀ c k, c < m → k < n → mrk G c k ≤ k ∧ mrk G c (mrk G c k) = mrk G c k) (ht : t < m) (hi : i < n) (ha : a < n) : ∀ c k, c < m → k < n → mrk (stepG G t i a) c k ≤ k ∧ mrk (stepG G t i a) c (mrk (stepG G t i a) c k) = mrk (stepG G t i a) c k := by
  intro c k hc hk
  have l := le c k hc hk
  have li := le t i ht hi
  have la := le t a ht ha
  have key : mrk (stepG G t i a) c k ≤ k := by
    rw [step_mk hs ht c k hc hk]
    split
    · rename_i e
      subst e
      unfold lower
      split <;> omega
    · exact l.1
  refine ⟨key, ?_⟩
  have hk2 : mrk (stepG G t i a) c k < n := by omega
  rw [step_mk hs ht c _ hc hk2]
  rw [step_mk hs ht c k hc hk]
  by_cases e : c = t
  · subst e
    rw [if_pos rfl, if_pos rfl]
    unfold lower
    by_cases q : mrk G c k = max (mrk G c i) (mrk G c a)
    · rw [if_pos q]
      have : mrk G c (min (mrk G c i) (mrk G c a)) = min (mrk G c i) (mrk G c a) := by
        rcases Nat.le_total (mrk G c i) (mrk G c a) with z | z
        · rw [Nat.min_eq_left z]; exact li.2
        · rw [Nat.min_eq_right z]; exact la.2
      rw [this]
      split
      · rfl
      · rfl
    · rw [if_neg q, l.2, if_neg q]
  · rw [if_neg e, if_neg e]
    exact l.2
theorem meet_col {m : Int} {rs : List Cells} {rl : List Rule} {G G' : Marks} {i a c : Nat} (ht : TabOk m rs) (hG : JM m.toNat rs rl G) (nc : clash rs G = false) (n5 : N5 rs) (hG' : JM m.toNat (tabOf m.toNat rs.length (stepG G c i a)) rl G') (hi : i < rs.length) (ha : a < rs.length) (hc : c < m.toNat) (em : mrk G c i ≠ mrk G c a) :
    dueW m.toNat rs rl G i c a c = wordD (!clash rs G') := by
  unfold dueW
  rw [if_neg fun z => em z.2]
  unfold meetB
  cases k1 : kn rs G i c with
  | none =>
    rw [if_neg (by simp)]
    cases k2 : kn rs G a c with
    | none => dsimp only; rw [pair_free ht hG hG' hi ha hc k1 k2 (n5_cel n5)]
    | some u => dsimp only; rw [pair_one ht hG nc hG' hi ha hc (.inr ⟨k1, k2⟩)]
  | some u =>
    cases k2 : kn rs G a c with
    | none =>
      rw [if_neg (by simp)]
      dsimp only
      rw [pair_one ht hG nc hG' hi ha hc (.inl ⟨k1, k2⟩)]
    | some w =>
      have ne : u ≠ w := fun e => by
        subst e
        obtain ⟨j, hj, e1, e2⟩ := kn_some k1
        obtain ⟨k, hk, e3, e4⟩ := kn_some k2
        have := (hG.iff c j k hc hj hk).mpr (.val hc hj hk e2 e4)
        omega
      rw [if_neg (by simp [ne])]
      dsimp only
      rw [pair_both hG hG' hi ha hc k1 k2 ne, decide_eq_false ne]
      rfl
theorem hS_column_relation : ∀ δ P, S_column_relation δ P → ArgOk 5 δ ∧ wb_column_relation (endsOf δ P) (δ ++ List.replicate (8 - 5) Sl.un) := by
  rintro δ P ⟨m, rs, rl, G, i, a, c, rfl, ht, hr, hG, nc, n5, hi, ha, hc, h⟩
  refine ⟨argD [tabD m rs, rulesD rl, .list (marksD G), .int (c : Nat), pairD (i, a)], ?_⟩
  have n8 := ht.few
  have m1 := ht.lo
  have m5 := ht.hi
  unfold wb_column_relation
  refine seqT fun T hT => ?_
  rw [show pairD (i, a) = .tuple [.int (i : Nat), .int (a : Nat)] from rfl] at h ⊢
  walk_at "ds"
  refine ⟨rfl, ?_⟩
  subst hT
  refine seqT fun T hT => ?_
  walk_at "ds"
  refine ⟨⟨rfl, by simp⟩, rfl, m.toNat, rs.length, G, [(c : Int)], i, a, .inr rfl, hG.shp, fun x hx => by
    rw [List.mem_singleton.mp hx]
    exact ⟨by omega, by omega⟩, by simp, hi, ha, ?_⟩
  have e2 : ([((c : Nat) : Int)].all fun x => decide (mrk G x.toNat i = mrk G x.toNat a)) = decide (mrk G c i = mrk G c a) := by simp
  rw [e2]
  walk_at "ds"
  by_cases em : mrk G c i = mrk G c a
  · rw [decide_eq_true em]
    refine ifT rfl ?_
    have : dueW m.toNat rs rl G i c a c = .str "always" := by unfold dueW; rw [if_pos ⟨rfl, em⟩]
    rw [this] at h
    exact h
  rw [decide_eq_false em]
  refine ifF rfl ?_
  subst hT
  refine seqT fun T hT => ?_
  walk_at "ds"
  subst hT
  refine seqT fun T hT => ?_
  walk_at "ds"
  refine ⟨rfl, m.toNat, rs.length, G, c, i, a, rfl, hG.shp, n8, hc, hi, ha, ?_⟩
  walk_at "ds"
  subst hT
  refine seqT fun T hT => ?_
  walk_at "ds"
  refine tupix (xs := [.int m, rowsD rs]) (z := rowsD rs) rfl ?_
  unfold rowsD
  walk_at "ds"
  rw [List.length_map]
  have ig := tabOf_IG (rl := rl) (step_shp hG.shp (t := c) (lo := i) (hi := a) hc) (step_le hG.shp hG.le hc hi ha)
  have ht' := tabOf_ok (n := rs.length) m1 m5 n8 fun x y hx hy => (step_le hG.shp hG.le hc hi ha x y hx hy).1
  refine ⟨rfl, m, tabOf m.toNat rs.length (stepG G c i a), rl, stepG G c i a, by rw [tabOf_len], ht', hr, ig, fun st G' _ hG' _ _ => ?_⟩
  have hs' : Shp m.toNat rs.length G' := by
    have := hG'.shp
    rw [tabOf_len] at this
    exact this
  rw [meet_col ht hG nc n5 hG' hi ha hc em] at h
  walk_at "ds"
  subst hT
  walk_at "ds"
  dsimp only [wCallS]
  walk_at "ds"
  refine ⟨rfl, m, rs, G', rfl, ht, hs', rfl, ?_⟩
  walk_at "ds"
  cases e : clash rs G' with
  | true => rw [e] at h; exact ifT rfl h
  | false => rw [e] at h; exact ifF rfl h
theorem hS_known_relation : ∀ δ P, S_known_relation δ P → ArgOk 4 δ ∧ wb_known_relation (endsOf δ P) (δ ++ List.replicate (4 - 4) Sl.un) := by
  rintro δ P ⟨m, rs, rl, i, c, v, rfl, ht, hr, hi, hc, v0, v1, h⟩
  refine ⟨argD [tabD m rs, rulesD rl, .int v, pairD (i, c)], ?_⟩
  unfold wb_known_relation
  walk_at "ds"
  refine ⟨rfl, m, rs, rl, i, c, v, rfl, ht, hr, hi, hc, v0, v1, ?_⟩
  walk_at "ds"
  cases e : canB m.toNat rs rl i c v with
  | true => rw [e] at h; exact ifT rfl h
  | false => rw [e] at h; exact ifF rfl h
theorem kn_rng {m : Int} {rs : List Cells} {G : Marks} {i c : Nat} {u : Int} (ht : TabOk m rs) (hc : c < m.toNat) (h : kn rs G i c = some u) : 0 ≤ u ∧ u ≤ 9999 := by
  obtain ⟨j, hj, _, e⟩ := kn_some h
  obtain ⟨h2, e2⟩ := cel_at ht hj hc
  have hx : rs.getD j [] ∈ rs := by
    rw [List.getD_eq_getElem?_getD, List.getElem?_eq_getElem hj]
    exact List.getElem_mem _
  exact (ht.rows _ hx).2 _ (List.getElem_mem h2) u (by rw [← e2]; exact e)
theorem free_jn {m : Nat} {rs : List Cells} {rl : List Rule} {G : Marks} {i c : Nat} (hG : JM m rs rl G) (k : kn rs G i c = none) : ∀ j u, Jn m rs rl c i j → cel rs j c ≠ some u := fun j u jn e => by
  obtain ⟨hc, hi, hj⟩ := jn_in jn
  rw [kn_none k j hj ((hG.iff c i j hc hi hj).mpr jn).symm] at e
  cases e
theorem hS_relation : ∀ δ P, S_relation δ P → ArgOk 4 δ ∧ wb_relation (endsOf δ P) (δ ++ List.replicate (8 - 4) Sl.un) := by
  rintro δ P ⟨m, rs, rl, i, c, a, b, rfl, ht, hr, hf, n5, hi, hc, ha, hb, h⟩
  refine ⟨argD [tabD m rs, rulesD rl, pairD (i, c), pairD (a, b)], ?_⟩
  have m1 := ht.lo
  unfold wb_relation
  refine seqT fun T hT => ?_
  walk_at "ds"
  refine ⟨rfl, m, rs, rfl, ht, ?_⟩
  walk_at "ds"
  subst hT
  refine seqT fun T hT => ?_
  walk_at "ds"
  refine tupix (xs := [.int m, rowsD rs]) (z := .int m) rfl ⟨rfl, m, rl, rfl, ht.lo, ht.hi, hr, ?_⟩
  walk_at "ds"
  subst hT
  refine seqT fun T hT => ?_
  walk_at "ds"
  refine ⟨rfl, m, rs, i, c, rfl, hi, by omega, ?_⟩
  walk_at "ds"
  subst hT
  refine seqT fun T hT => ?_
  walk_at "ds"
  refine ⟨rfl, m, rs, a, b, rfl, ha, by omega, ?_⟩
  walk_at "ds"
  subst hT
  refine seqT fun T hT => ?_
  walk_at "ds"
  refine ⟨rfl, m, rs, rl, rfl, ht, hr, hf, fun G hG nc => ?_⟩
  have h := h G hG nc
  walk_at "ds"
  subst hT
  refine seqT fun T hT => ?_
  walk_at "ds"
  refine tupix (xs := [.int (i : Nat), .int (c : Nat)]) (z := .int (c : Nat)) rfl ?_
  walk_at "ds"
  refine tupix (xs := [.int (a : Nat), .int (b : Nat)]) (z := .int (b : Nat)) rfl ?_
  walk_at "ds"
  refine eq_ok (k := decide (c = b)) rfl (by rw [eqv_int]; exact decide_eq_decide.mpr (by omega)) ?_
  walk_at "ds"
  by_cases ecb : c = b
  · rw [decide_eq_true ecb]
    refine ifT rfl ?_
    subst ecb
    refine tupix (xs := [.int (i : Nat), .int (c : Nat)]) (z := .int (c : Nat)) rfl ?_
    walk_at "ds"
    refine tupix (xs := [.int (i : Nat), .int (c : Nat)]) (z := .int (i : Nat)) rfl ?_
    walk_at "ds"
    refine tupix (xs := [.int (a : Nat), .int (c : Nat)]) (z := .int (a : Nat)) rfl ?_
    walk_at "ds"
    refine ⟨⟨rfl, by simp⟩, rfl, m, rs, rl, G, i, a, c, rfl, ht, hr, hG, nc, n5, hi, ha, hc, ?_⟩
    walk_at "ds"
    exact h
  rw [decide_eq_false ecb]
  refine ifF rfl ?_
  have h0 : dueW m.toNat rs rl G i c a b = if (kn rs G i c).isSome = true ∧ kn rs G i c = kn rs G a b then .str "always" else wordD (meetB m.toNat rs rl G i c a b) := by
    unfold dueW
    rw [if_neg fun z => ecb z.1]
  rw [h0] at h
  unfold meetB at h
  subst hT
  refine seqT fun T hT => ?_
  walk_at "ds"
  refine ⟨rfl, m, rs, G, rfl, ht, hG.shp, ?_⟩
  walk_at "ds"
  subst hT
  refine seqT fun T hT => ?_
  walk_at "ds"
  refine tupix (xs := [.int (i : Nat), .int (c : Nat)]) (z := .int (i : Nat)) rfl ?_
  walk_at "ds"
  refine known_r hi ?_
  walk_at "ds"
  refine tupix (xs := [.int (i : Nat), .int (c : Nat)]) (z := .int (c : Nat)) rfl ?_
  walk_at "ds"
  refine known_c hc ?_
  walk_at "ds"
  subst hT
  refine seqT fun T hT => ?_
  walk_at "ds"
  refine tupix (xs := [.int (a : Nat), .int (b : Nat)]) (z := .int (a : Nat)) rfl ?_
  walk_at "ds"
  refine known_r ha ?_
  walk_at "ds"
  refine tupix (xs := [.int (a : Nat), .int (b : Nat)]) (z := .int (b : Nat)) rfl ?_
  walk_at "ds"
  refine known_c hb ?_
  walk_at "ds"
  subst hT
  refine seqT fun T hT => ?_
  walk_at "ds"
  cases k1 : kn rs G i c with
  | none =>
    rw [k1] at h
    rw [if_neg (by simp)] at h
    refine is_ok (k := true) rfl ?_
    walk_at "ds"
    refine ifT rfl ?_
    cases k2 : kn rs G a b with
    | none =>
      rw [k2] at h
      refine is_ok (k := true) rfl ?_
      walk_at "ds"
      refine ifT rfl ?_
      have : ((5000 : Int) :: rs.filterMap fun r => at_ r (c : Nat)).any (fun x => hasF m.toNat (setC (setC rs i c (some x)) a b (some x)) rl) = true :=
        List.any_eq_true.mpr ⟨5000, List.mem_cons_self, free_two ht hi hc ha hb (by decide) ecb ((noCl_iff hG).mp nc) (free_jn hG k1) (free_jn hG k2) fun j k hj => n5_cel n5 j k hj⟩
      dsimp only at h
      rw [this] at h
      exact h
    | some u =>
      rw [k2] at h
      refine is_ok (k := false) rfl ?_
      walk_at "ds"
      refine ifF rfl ?_
      subst hT
      refine seqT fun T hT => ?_
      walk_at "ds"
      refine is_ok (k := true) rfl ?_
      walk_at "ds"
      refine ifT rfl ?_
      have r := kn_rng ht hb k2
      refine ⟨rfl, m, rs, rl, i, c, u, rfl, ht, hr, hi, hc, r.1, r.2, ?_⟩
      dsimp only at h
      rw [setC_comm hi ha (fun z => ecb z.2.symm), two_one ht hG nc ha hi hb hc (fun z => ecb z.2) k2 k1] at h
      walk_at "ds"
      exact h
  | some u =>
    refine is_ok (k := false) rfl ?_
    walk_at "ds"
    refine ifF rfl ?_
    refine ifF rfl ?_
    subst hT
    refine seqT fun T hT => ?_
    walk_at "ds"
    refine is_ok (k := false) rfl ?_
    walk_at "ds"
    refine ifF rfl ?_
    subst hT
    refine seqT fun T hT => ?_
    walk_at "ds"
    rw [k1] at h
    have r := kn_rng ht hc k1
    cases k2 : kn rs G a b with
    | none =>
      rw [k2, if_neg (by simp)] at h
      refine is_ok (k := true) rfl ?_
      walk_at "ds"
      refine ifT rfl ?_
      refine ⟨rfl, m, rs, rl, a, b, u, rfl, ht, hr, ha, hb, r.1, r.2, ?_⟩
      dsimp only at h
      rw [two_one ht hG nc hi ha hc hb (fun z => ecb z.2.symm) k1 k2] at h
      walk_at "ds"
      exact h
    | some w =>
      rw [k2] at h
      refine is_ok (k := false) rfl ?_
      walk_at "ds"
      refine ifF rfl ?_
      subst hT
      walk_at "ds"
      refine eq_ok (k := decide (u = w)) rfl (eqv_int _ _) ?_
      walk_at "ds"
      by_cases e : u = w
      · rw [if_pos ⟨rfl, by rw [e]⟩] at h
        rw [decide_eq_true e]
        exact ifT rfl h
      · rw [if_neg (by simp [e])] at h
        dsimp only at h
        rw [decide_eq_false e] at h ⊢
        exact ifF rfl h
theorem hS_law_value : ∀ δ P, S_law_value δ P → ArgOk 3 δ ∧ wb_law_value (endsOf δ P) (δ ++ List.replicate (4 - 3) Sl.un) := by
  rintro δ P ⟨m, rs, G, i, c, rfl, ht, hs, nc, hi, hc, h⟩
  refine ⟨argD [rowsD rs, .list (marksD G), pairD (i, c)], ?_⟩
  unfold wb_law_value
  refine seqT fun T hT => ?_
  walk_at "ds"
  refine tupix (xs := [.int (i : Nat), .int (c : Nat)]) (z := .int (c : Nat)) rfl ?_
  walk_at "ds"
  refine tupix (xs := [.int (i : Nat), .int (c : Nat)]) (z := .int (c : Nat)) rfl ?_
  walk_at "ds"
  refine colix hs hc ?_
  walk_at "ds"
  refine tupix (xs := [.int (i : Nat), .int (c : Nat)]) (z := .int (i : Nat)) rfl ?_
  walk_at "ds"
  refine mrkix hs hc hi ?_
  refine ⟨rfl, m, rs, G, c, mrk G c i, rfl, ht, hs, hc, ?_⟩
  rw [kn_vals hs nc hi hc]
  walk_at "ds"
  subst hT
  walk_at "ds"
  cases ek : kn rs G i c with
  | some v =>
    rw [ek] at h
    refine ⟨⟨rfl, by simp⟩, rfl, ?_⟩
    refine ne_ok (k := false) rfl rfl ?_
    walk_at "ds"
    refine ifT rfl ?_
    refine ⟨rfl, lstix (z := .int v) rfl ?_⟩
    exact h
  | none =>
    rw [ek] at h
    refine ⟨⟨rfl, by simp⟩, rfl, ?_⟩
    refine ne_ok (k := true) rfl rfl ?_
    walk_at "ds"
    exact ifF rfl h
theorem hS_law_meets : ∀ δ P, S_law_meets δ P → ArgOk 5 δ ∧ wb_law_meets (endsOf δ P) (δ ++ List.replicate (13 - 5) Sl.un) := by
  rintro δ P ⟨m, rs, rl, G, i, c, a, b, rfl, ht, hr, hG, nc, hi, hc, ha, hb, h⟩
  refine ⟨argD [.int m, rowsD rs, rulesD rl, pairD (i, c), pairD (a, b)], ?_⟩
  have n8 := ht.few
  unfold wb_law_meets
  refine seqT fun T hT => ?_
  walk_at "ds"
  refine ⟨rfl, m, rs, rl, rfl, ht, hr, fun G' hG' => ?_⟩
  rw [hG'.uniq hG]
  walk_at "ds"
  subst hT
  refine seqT fun T hT => ?_
  walk_at "ds"
  refine ⟨rfl, m, rs, G, i, c, rfl, ht, hG.shp, nc, hi, hc, rfl, ?_⟩
  walk_at "ds"
  refine ⟨rfl, m, rs, G, a, b, rfl, ht, hG.shp, nc, ha, hb, rfl, ?_⟩
  walk_at "ds"
  subst hT
  refine seqT fun T hT => ?_
  walk_at "ds"
  have main : ∀ (xs : List Int), (∀ x ∈ xs, 0 ≤ x ∧ x ≤ 9999) → meetB m.toNat rs rl G i c a b = xs.any (fun x => hasF m.toNat (setC (setC rs i c (some x)) a b (some x)) rl) → ∀ y6 y9 y10, wFor (wSeq (wV 7)) (bN 8) (wThen (wSet 11 (wCall S_law_with (wCons (wCall S_law_with (wCons (wV 1) (wCons (w2 rIxD (wV 3) (wC (.int 0))) (wCons (w2 rIxD (wV 3) (wC (.int 1))) (wCons (wV 8) wNil))))) (wCons (w2 rIxD (wV 4) (wC (.int 0))) (wCons (w2 rIxD (wV 4) (wC (.int 1))) (wCons (wV 8) wNil))))))
      (wIfS (wTru (wCall S_law_has_filling (wCons (wV 0) (wCons (wV 11) (wCons (wV 2) wNil))))) (wRet (wC (.bool true))) wNext)) { endsOf [.d (.int m), .d (rowsD rs), .d (rulesD rl), .d (pairD (i, c)), .d (pairD (a, b))] P with nx := fun δ1 => wRet (wC (.bool false)) (endsOf [.d (.int m), .d (rowsD rs), .d (rulesD rl), .d (pairD (i, c)), .d (pairD (a, b))] P) δ1 } [.d (.int m), .d (rowsD rs), .d (rulesD rl), .d (pairD (i, c)), .d (pairD (a, b)), .d (.list (marksD G)), y6, .d (.list (xs.map PyData.int)), .un, y9, y10, .un, .un] := by
    intro xs vr hme y6 y9 y10
    walk_at "ds"
    refine loopT PyData.int xs (fun q δ => ∃ y8 y11, δ = [.d (.int m), .d (rowsD rs), .d (rulesD rl), .d (pairD (i, c)), .d (pairD (a, b)), .d (.list (marksD G)), y6, .d (.list (xs.map PyData.int)), y8, y9, y10, y11, .un] ∧ meetB m.toNat rs rl G i c a b = (xs.drop q).any (fun x => hasF m.toNat (setC (setC rs i c (some x)) a b (some x)) rl)) ⟨_, _, rfl, hme⟩ ?_ ?_
    · rintro q x δ C hx ⟨y8, y11, rfl, hq⟩ hC
      have r := vr x (List.mem_of_getElem? hx)
      have ht2 : TabOk m (setC rs i c (some x)) := set_ok ht hi (fun u hu => by cases hu; exact r)
      have ha2 : a < (setC rs i c (some x)).length := by rw [setC_len]; exact ha
      have dr : xs.drop q = x :: xs.drop (q + 1) := by
        obtain ⟨h1, h2⟩ := List.getElem?_eq_some_iff.mp hx
        rw [← h2]
        exact List.drop_eq_getElem_cons h1
      rw [dr, List.any_cons] at hq
      walk_at "ds"
      refine tupix (xs := [.int (i : Nat), .int (c : Nat)]) (z := .int (i : Nat)) rfl ?_
      walk_at "ds"
      refine tupix (xs := [.int (i : Nat), .int (c : Nat)]) (z := .int (c : Nat)) rfl ?_
      walk_at "ds"
      refine ⟨rfl, m, rs, i, c, some x, rfl, ht, hi, hc, ?_⟩
      walk_at "ds"
      refine tupix (xs := [.int (a : Nat), .int (b : Nat)]) (z := .int (a : Nat)) rfl ?_
      walk_at "ds"
      refine tupix (xs := [.int (a : Nat), .int (b : Nat)]) (z := .int (b : Nat)) rfl ?_
      walk_at "ds"
      refine ⟨rfl, m, setC rs i c (some x), a, b, some x, rfl, ht2, ha2, hb, ?_⟩
      walk_at "ds"
      refine ⟨rfl, m, setC (setC rs i c (some x)) a b (some x), rl, rfl, set_ok ht2 ha2 (fun u hu => by cases hu; exact r), hr, ?_⟩
      walk_at "ds"
      cases e : hasF m.toNat (setC (setC rs i c (some x)) a b (some x)) rl with
      | true =>
        rw [e, Bool.true_or] at hq
        rw [hq] at h
        exact ifT rfl h
      | false =>
        rw [e, Bool.false_or] at hq
        exact ifF rfl (hC _ ⟨_, _, rfl, hq⟩)
    · rintro δ ⟨y8, y11, rfl, hq⟩
      rw [List.drop_length] at hq
      have hq : meetB m.toNat rs rl G i c a b = false := hq
      rw [hq] at h
      exact h
  cases k1 : kn rs G i c with
  | some u =>
    refine isnot_ok (k := false) rfl ?_
    walk_at "ds"
    refine ifT rfl ?_
    cases k2 : kn rs G a b with
    | some w =>
      refine isnot_ok (k := false) rfl ?_
      walk_at "ds"
      refine ifT rfl ?_
      unfold meetB at h
      rw [k1, k2] at h
      exact eq_ok (k := decide (u = w)) rfl (eqv_int _ _) h
    | none =>
      refine isnot_ok (k := true) rfl ?_
      walk_at "ds"
      refine ifF rfl ?_
      subst hT
      refine seqT fun T hT => ?_
      walk_at "ds"
      refine isnot_ok (k := false) rfl ?_
      walk_at "ds"
      refine ifT rfl ?_
      subst hT
      refine seqT fun T hT => ?_
      walk_at "ds"
      refine ⟨⟨rfl, by simp⟩, ?_⟩
      subst hT
      refine seqT fun T hT => ?_
      walk_at "ds"
      refine is_ok (k := false) rfl ?_
      walk_at "ds"
      refine ifF rfl ?_
      subst hT
      exact main [u] (fun x hx => by rw [List.mem_singleton.mp hx]; exact kn_rng ht hc k1) (by unfold meetB; rw [k1, k2]; simp) _ _ _
  | none =>
    refine isnot_ok (k := true) rfl ?_
    walk_at "ds"
    refine ifF rfl ?_
    refine ifF rfl ?_
    subst hT
    refine seqT fun T hT => ?_
    walk_at "ds"
    refine isnot_ok (k := true) rfl ?_
    walk_at "ds"
    refine ifF rfl ?_
    subst hT
    refine seqT fun T hT => ?_
    walk_at "ds"
    refine ⟨⟨rfl, by simp⟩, ?_⟩
    subst hT
    refine seqT fun T hT => ?_
    walk_at "ds"
    cases k2 : kn rs G a b with
    | some u =>
      refine is_ok (k := false) rfl ?_
      walk_at "ds"
      refine ifF rfl ?_
      subst hT
      exact main [u] (fun x hx => by rw [List.mem_singleton.mp hx]; exact kn_rng ht hb k2) (by unfold meetB; rw [k1, k2]; simp) _ _ _
    | none =>
      refine is_ok (k := true) rfl ?_
      walk_at "ds"
      refine ifT rfl ?_
      unfold rowsD
      walk_at "ds"
      refine ⟨⟨rfl, by simp⟩, ⟨by rw [List.length_map]; omega, rfl⟩, ?_⟩
      refine go_filT rowD (fun r => (at_ r (c : Nat)).isSome) (fun r => cellD (at_ r (c : Nat))) rs [] (fun r hr C C' h1 h2 => ?_) ?_
      · have l := (ht.rows r hr).1
        walk_at "ds"
        refine tupix (xs := [.int (i : Nat), .int (c : Nat)]) (z := .int (c : Nat)) rfl ?_
        walk_at "ds"
        refine rowix (by omega) (by omega) ?_
        walk_at "ds"
        cases e : at_ r (c : Nat) with
        | none =>
          rw [e] at h2
          refine isnot_ok (k := true) rfl ?_
          walk_at "ds"
          exact ifF rfl (h2 rfl)
        | some v =>
          rw [e] at h1
          refine isnot_ok (k := false) rfl ?_
          walk_at "ds"
          refine ifT rfl ?_
          refine tupix (xs := [.int (i : Nat), .int (c : Nat)]) (z := .int (c : Nat)) rfl ?_
          walk_at "ds"
          refine rowix (by omega) (by omega) ⟨rfl, ?_⟩
          rw [e]
          exact h1 rfl
      rw [List.nil_append, filt_cells]
      have cl := col_len (rs := rs) (c := c)
      walk_at "ds"
      refine ⟨by rw [List.length_map]; simp only [List.length_cons, List.length_nil]; omega, ?_⟩
      subst hT
      exact main ((5000 : Int) :: rs.filterMap fun r => at_ r (c : Nat)) (fun x hx => by
        rcases List.mem_cons.mp hx with z | z
        · omega
        · exact colV_ok ht hc (colL_ok rs c) x (((colL_ok rs c).2 x).mpr (mem_col.mp z))) (by unfold meetB; rw [k1, k2]) _ _ _
theorem hS_law_due : ∀ δ P, S_law_due δ P → ArgOk 6 δ ∧ wb_law_due (endsOf δ P) (δ ++ List.replicate (8 - 6) Sl.un) := by
  rintro δ P ⟨m, rs, rl, G, i, c, a, b, rfl, ht, hr, hG, nc, hi, hc, ha, hb, h⟩
  refine ⟨argD [.int m, rowsD rs, rulesD rl, .list (marksD G), pairD (i, c), pairD (a, b)], ?_⟩
  have hs := hG.shp
  unfold dueW at h
  unfold wb_law_due
  refine seqT fun T hT => ?_
  have rest : ¬ (c = b ∧ mrk G c i = mrk G b a) → T [.d (.int m), .d (rowsD rs), .d (rulesD rl), .d (.list (marksD G)), .d (pairD (i, c)), .d (pairD (a, b)), .un, .un] := fun ne => by
    rw [if_neg ne] at h
    subst hT
    refine seqT fun T hT => ?_
    walk_at "ds"
    refine ⟨rfl, m, rs, G, i, c, rfl, ht, hs, nc, hi, hc, rfl, ?_⟩
    walk_at "ds"
    refine ⟨rfl, m, rs, G, a, b, rfl, ht, hs, nc, ha, hb, rfl, ?_⟩
    walk_at "ds"
    subst hT
    refine seqT fun T hT => ?_
    have go : ¬ ((kn rs G i c).isSome = true ∧ kn rs G i c = kn rs G a b) → T [.d (.int m), .d (rowsD rs), .d (rulesD rl), .d (.list (marksD G)), .d (pairD (i, c)), .d (pairD (a, b)), .d (cellD (kn rs G i c)), .d (cellD (kn rs G a b))] := fun ne2 => by
      rw [if_neg ne2] at h
      subst hT
      walk_at "ds"
      refine ⟨rfl, m, rs, rl, G, i, c, a, b, rfl, ht, hr, hG, nc, hi, hc, ha, hb, ?_⟩
      walk_at "ds"
      cases e : meetB m.toNat rs rl G i c a b with
      | true => rw [e] at h; exact ifT rfl h
      | false => rw [e] at h; exact ifF rfl h
    walk_at "ds"
    cases k1 : kn rs G i c with
    | none =>
      rw [k1] at go
      refine isnot_ok (k := true) rfl ?_
      walk_at "ds"
      exact ifF rfl (ifF rfl (go (by simp)))
    | some u =>
      rw [k1] at go h
      refine isnot_ok (k := false) rfl ?_
      walk_at "ds"
      refine ifT rfl ?_
      cases k2 : kn rs G a b with
      | none =>
        rw [k2] at go
        refine eq_ok (k := false) rfl rfl ?_
        walk_at "ds"
        exact ifF rfl (go (by simp))
      | some w =>
        rw [k2] at go h
        refine eq_ok (k := decide (u = w)) rfl (eqv_int _ _) ?_
        walk_at "ds"
        by_cases e : u = w
        · rw [if_pos ⟨rfl, by rw [e]⟩] at h
          rw [decide_eq_true e]
          exact ifT rfl h
        · rw [decide_eq_false e]
          exact ifF rfl (go (by simp [e]))
  clear hT
  walk_at "ds"
  refine tupix (xs := [.int (i : Nat), .int (c : Nat)]) (z := .int (c : Nat)) rfl ?_
  walk_at "ds"
  refine tupix (xs := [.int (a : Nat), .int (b : Nat)]) (z := .int (b : Nat)) rfl ?_
  walk_at "ds"
  refine eq_ok (k := decide (c = b)) rfl (by rw [eqv_int]; exact decide_eq_decide.mpr (by omega)) ?_
  walk_at "ds"
  by_cases ecb : c = b
  · rw [decide_eq_true ecb]
    refine ifT rfl ?_
    refine tupix (xs := [.int (i : Nat), .int (c : Nat)]) (z := .int (c : Nat)) rfl ?_
    walk_at "ds"
    refine colix hs hc ?_
    walk_at "ds"
    refine tupix (xs := [.int (i : Nat), .int (c : Nat)]) (z := .int (i : Nat)) rfl ?_
    walk_at "ds"
    refine mrkix hs hc hi ?_
    walk_at "ds"
    refine tupix (xs := [.int (a : Nat), .int (b : Nat)]) (z := .int (b : Nat)) rfl ?_
    walk_at "ds"
    refine colix hs hb ?_
    walk_at "ds"
    refine tupix (xs := [.int (a : Nat), .int (b : Nat)]) (z := .int (a : Nat)) rfl ?_
    walk_at "ds"
    refine mrkix hs hb ha ?_
    walk_at "ds"
    refine eq_ok (k := decide (mrk G c i = mrk G b a)) rfl (by rw [eqv_int]; exact decide_eq_decide.mpr (by omega)) ?_
    walk_at "ds"
    by_cases em : mrk G c i = mrk G b a
    · rw [if_pos ⟨ecb, em⟩] at h
      rw [decide_eq_true em]
      exact ifT rfl h
    · rw [decide_eq_false em]
      exact ifF rfl (rest fun z => em z.2)
  · rw [decide_eq_false ecb]
    exact ifF rfl (ifF rfl (rest fun z => ecb z.1))
theorem meet_sym {m : Int} {rs : List Cells} {rl : List Rule} {G : Marks} {i c a b : Nat} (ht : TabOk m rs) (hG : JM m.toNat rs rl G) (nc : clash rs G = false) (n5 : N5 rs) (hi : i < rs.length) (hc : c < m.toNat) (ha : a < rs.length) (hb : b < m.toNat) : meetB m.toNat rs rl G i c a b = meetB m.toNat rs rl G a b i c := by
  by_cases e : a = i ∧ b = c
  · obtain ⟨rfl, rfl⟩ := e; rfl
  · have cm : ∀ x : Option Int, setC (setC rs i c x) a b x = setC (setC rs a b x) i c x := fun x => setC_comm hi ha e
    unfold meetB
    cases k1 : kn rs G i c with
    | none =>
      cases k2 : kn rs G a b with
      | none =>
        dsimp only
        by_cases ecb : c = b
        · subst ecb
          congr 1
          funext x
          rw [cm]
        · have f1 : ((5000 : Int) :: rs.filterMap fun r => at_ r (c : Nat)).any (fun x => hasF m.toNat (setC (setC rs i c (some x)) a b (some x)) rl) = true :=
            List.any_eq_true.mpr ⟨5000, List.mem_cons_self, free_two ht hi hc ha hb (by decide) ecb ((noCl_iff hG).mp nc) (free_jn hG k1) (free_jn hG k2) fun j k hj => n5_cel n5 j k hj⟩
          have f2 : ((5000 : Int) :: rs.filterMap fun r => at_ r (b : Nat)).any (fun x => hasF m.toNat (setC (setC rs a b (some x)) i c (some x)) rl) = true :=
            List.any_eq_true.mpr ⟨5000, List.mem_cons_self, free_two ht ha hb hi hc (by decide) (fun z => ecb z.symm) ((noCl_iff hG).mp nc) (free_jn hG k2) (free_jn hG k1) fun j k hj => n5_cel n5 j k hj⟩
          rw [f1, f2]
      | some w => dsimp only; rw [cm]
    | some u =>
      cases k2 : kn rs G a b with
      | none => dsimp only; rw [cm]
      | some w => dsimp only; exact decide_eq_decide.mpr ⟨fun z => z.symm, fun z => z.symm⟩
theorem due_sym {m : Int} {rs : List Cells} {rl : List Rule} {G : Marks} {i c a b : Nat} (ht : TabOk m rs) (hG : JM m.toNat rs rl G) (nc : clash rs G = false) (n5 : N5 rs) (hi : i < rs.length) (hc : c < m.toNat) (ha : a < rs.length) (hb : b < m.toNat) : dueW m.toNat rs rl G a b i c = dueW m.toNat rs rl G i c a b := by
  unfold dueW
  rw [meet_sym ht hG nc n5 ha hb hi hc]
  by_cases q1 : c = b ∧ mrk G c i = mrk G b a
  · rw [if_pos q1, if_pos ⟨q1.1.symm, q1.2.symm⟩]
  · rw [if_neg q1, if_neg fun z => q1 ⟨z.1.symm, z.2.symm⟩]
    by_cases q2 : (kn rs G i c).isSome = true ∧ kn rs G i c = kn rs G a b
    · rw [if_pos q2, if_pos ⟨by rw [← q2.2]; exact q2.1, q2.2.symm⟩]
    · rw [if_neg q2, if_neg fun z => q2 ⟨by rw [← z.2]; exact z.1, z.2.symm⟩]
theorem sm_due {m : Nat} {rs : List Cells} {rl : List Rule} {G : Marks} {i c a b : Nat} : Sm 0 0 (dueW m rs rl G i c a b) := by
  have st : ∀ x : Str, short (.str x) = true → Sm 0 0 (.str x) := fun x h => ⟨h, by simp [count], by simp [PyData.depth]⟩
  unfold dueW wordD
  split
  · exact st _ (by decide)
  · split
    · exact st _ (by decide)
    · split
      · exact st _ (by decide)
      · exact st _ (by decide)
theorem hS_law_are_right : ∀ δ P, S_law_are_right δ P → ArgOk 4 δ ∧ wb_law_are_right (endsOf δ P) (δ ++ List.replicate (13 - 4) Sl.un) := by
  rintro δ P ⟨xs, n, m, rs, rl, rfl, hp, hn, ht, hr, hf, n5, h⟩
  refine ⟨argO _ [.int m, rowsD rs, rulesD rl], ?_⟩
  have n8 := ht.few
  have m1 := ht.lo
  have m5 := ht.hi
  unfold wb_law_are_right
  refine seqT fun T hT => ?_
  walk_at "ds"
  refine ⟨rfl, m, rs, rl, rfl, ht, hr, fun G hG => ?_⟩
  have nc : clash rs G = false := by
    have := hasF_eq hG
    rw [hf] at this
    cases e : clash rs G with
    | false => rfl
    | true => rw [e] at this; cases this
  walk_at "ds"
  subst hT
  refine seqT fun T hT => ?_
  walk_at "ds"
  refine ⟨⟨rfl, by simp⟩, ?_⟩
  subst hT
  refine seqT fun T hT => ?_
  rw [show rowsD rs = .tuple (rs.map rowD) from rfl]
  walk_at "ds"
  refine ⟨⟨by omega, by rw [List.length_map]; omega⟩, ?_⟩
  refine loopR (lo := 0) ((((rs.map rowD).length : Nat) : Int)).toNat (fun q δ => ∃ (pl : List (Nat × Nat)) (y6 : Sl), δ = [.o xs, .d (.int m), .d (.tuple (rs.map rowD)), .d (rulesD rl), .d (.list (marksD G)), .o (pl.map pairD), y6, .un, .un, .un, .un, .un, .un] ∧ (∀ p ∈ pl, p.1 < rs.length ∧ p.2 < m.toNat) ∧ pl.length ≤ 5 * q) ⟨[], _, rfl, by simp, by simp⟩ ?_ ?_
  · rintro q δ C hq ⟨pl, y6, rfl, g1, g2⟩ hC
    have hq : q < rs.length := by rw [List.length_map] at hq; exact hq
    walk_at "ds"
    refine ⟨⟨by omega, by omega⟩, ⟨by rw [rangeD_len]; omega, rfl⟩, ?_⟩
    rw [rangeD_eq]
    refine go_mapT _ (fun x : Nat => pairD (q, x)) (List.range m.toNat) (fun x hx C C' hC' => ?_) ?_
    · walk_at "ds"
      refine ifT rfl ⟨⟨rfl, by simp⟩, rfl, ?_⟩
      have e : PyData.tuple [PyData.int (0 + (q : Nat)), PyData.int (0 + (x : Nat))] = pairD (q, x) := by
        rw [Int.zero_add, Int.zero_add]
        rfl
      rw [e]
      exact hC'
    walk_at "ds"
    refine ⟨by simp only [List.length_map, List.length_range]; omega, hC _ ⟨pl ++ (List.range m.toNat).map fun x => (q, x), .d (.int (0 + (q : Nat))), ?_, ?_, ?_⟩⟩
    · rw [List.map_append, List.map_map]
      rfl
    · intro p hp
      rcases List.mem_append.mp hp with z | z
      · exact g1 p z
      · obtain ⟨x, hx, rfl⟩ := List.mem_map.mp z
        exact ⟨hq, List.mem_range.mp hx⟩
    · rw [List.length_append, List.length_map, List.length_range]
      omega
  · rintro δ ⟨pl, y6, rfl, g1, g2⟩
    have g2 : pl.length ≤ 5 * 8 := by
      rw [List.length_map] at g2
      have : (((rs.length : Nat) : Int)).toNat = rs.length := rfl
      omega
    subst hT
    dsimp only
    refine seqT fun T hT => ?_
    walk_at "ds"
    rw [List.length_map]
    generalize hN : (if ((pl.length : Nat) : Int) < 20 then ((pl.length : Nat) : Int) else 20) = N
    have N1 : 0 ≤ N ∧ N ≤ 20 ∧ N ≤ (pl.length : Nat) := by
      rw [← hN]
      split <;> omega
    have pick : ∀ d : Int, 0 ≤ d → d < (pl.length : Nat) → ∃ p, p ∈ pl ∧ atI (pl.map pairD) d = some (pairD p) := fun d d0 d1 => by
      have hd : d.toNat < pl.length := by omega
      refine ⟨pl[d.toNat], List.getElem_mem hd, atI_of d0 ?_⟩
      rw [List.getElem?_map, List.getElem?_eq_getElem hd]
      rfl
    refine ⟨rfl, ⟨by omega, by omega⟩, ⟨by rw [rangeD_len]; omega, rfl⟩, ?_⟩
    rw [rangeD_eq]
    refine go_invT _ (fun j acc δ => ∃ (us : List PyData) (ps : List (Nat × Nat)), δ = [.o us, .d (.int m), .d (.tuple (rs.map rowD)), .d (rulesD rl), .d (.list (marksD G)), .o (pl.map pairD), y6, .un, .un, .un, .un, .un, .un] ∧ acc = ps.map pairD ∧ ps.length = j ∧ (∀ p ∈ ps, p.1 < rs.length ∧ p.2 < m.toNat) ∧ Pen (n + j) us) (List.range N.toNat) 0 [] _ ?_ ⟨xs, [], rfl, rfl, rfl, by simp, hp⟩ ?_
    · rintro j x acc δ C hj ⟨us, ps, rfl, rfl, c1, c2, c3⟩ hC
      have hj2 : j < N.toNat := by
        have := (List.getElem?_eq_some_iff.mp hj).1
        rw [List.length_range] at this
        exact this
      walk_at "ds"
      refine ifT rfl ?_
      rw [List.length_map]
      refine ⟨rfl, rfl, us, n + (0 + j), _, rfl, c3, by omega, by omega, by omega, fun ws d hw d0 d1 => ?_⟩
      obtain ⟨p, hp1, hp2⟩ := pick d d0 d1
      walk_at "ds"
      refine ⟨rfl, lstix hp2 ⟨rfl, ?_⟩⟩
      refine hC _ _ ⟨ws, ps ++ [p], rfl, by rw [List.map_append]; rfl, by rw [List.length_append, c1]; rfl, fun q hq => ?_, hw.mono (by omega)⟩
      rcases List.mem_append.mp hq with z | z
      · exact c2 q z
      · rw [List.mem_singleton.mp z]
        exact g1 p hp1
    · rintro acc δ ⟨us, ps, rfl, rfl, c1, c2, c3⟩
      rw [List.length_range] at c1 c3
      refine loopT pairD ps (fun q δ => ∃ (us : List PyData) (y6 y7 y8 y10 y11 : Sl), δ = [.o us, .d (.int m), .d (.tuple (rs.map rowD)), .d (rulesD rl), .d (.list (marksD G)), .o (pl.map pairD), y6, y7, y8, .un, y10, y11, .un] ∧ Pen (n + 20 + 3 * q) us) ⟨us, _, _, _, _, _, rfl, c3.mono (by omega)⟩ ?_ ?_
      · rintro q ⟨i, c⟩ δ C hx ⟨us, y6, y7, y8, y10, y11, rfl, hu⟩ hC
        obtain ⟨hi, hc⟩ := c2 _ (List.mem_of_getElem? hx)
        have hi : i < rs.length := hi
        have hc : c < m.toNat := hc
        have hq := (List.getElem?_eq_some_iff.mp hx).1
        have pp : 1 ≤ pl.length := by omega
        walk_at "ds"
        refine ⟨⟨rfl, by simp⟩, ⟨by decide, by decide⟩, ⟨by rw [rangeD_len]; decide, rfl⟩, ?_⟩
        rw [rangeD_eq]
        refine go_invT _ (fun j acc δ => ∃ (us : List PyData) (qs : List (Nat × Nat)), δ = [.o us, .d (.int m), .d (.tuple (rs.map rowD)), .d (rulesD rl), .d (.list (marksD G)), .o (pl.map pairD), y6, .d (pairD (i, c)), y8, .un, y10, y11, .un] ∧ acc = qs.map pairD ∧ qs.length = j ∧ (∀ p ∈ qs, p.1 < rs.length ∧ p.2 < m.toNat) ∧ Pen (n + 20 + 3 * q + j) us) (List.range (3 : Int).toNat) 0 [] _ ?_ ⟨us, [], rfl, rfl, rfl, by simp, hu⟩ ?_
        · rintro j x acc δ C hj ⟨us, qs, rfl, rfl, b1, b2, b3⟩ hC
          have hj2 : j < 3 := by
            have := (List.getElem?_eq_some_iff.mp hj).1
            rw [List.length_range] at this
            exact this
          walk_at "ds"
          refine ifT rfl ?_
          rw [List.length_map]
          refine ⟨rfl, rfl, us, n + 20 + 3 * q + (0 + j), _, rfl, b3, by omega, by omega, by omega, fun ws d hw d0 d1 => ?_⟩
          obtain ⟨p, hp1, hp2⟩ := pick d d0 d1
          walk_at "ds"
          refine ⟨rfl, lstix hp2 ⟨rfl, ?_⟩⟩
          refine hC _ _ ⟨ws, qs ++ [p], rfl, by rw [List.map_append]; rfl, by rw [List.length_append, b1]; rfl, fun q hq => ?_, hw.mono (by omega)⟩
          rcases List.mem_append.mp hq with z | z
          · exact b2 q z
          · rw [List.mem_singleton.mp z]
            exact g1 p hp1
        · rintro acc δ ⟨us, qs, rfl, rfl, b1, b2, b3⟩
          rw [List.length_range] at b1 b3
          have b1 : qs.length = 3 := b1
          have b3 : Pen (n + 20 + 3 * q + 3) us := b3
          walk_at "ds"
          refine ⟨by rw [List.length_map]; simp only [List.length_cons, List.length_nil]; omega, ?_⟩
          rw [show PyData.tuple (rs.map rowD) = rowsD rs from rfl] at *
          refine loopT pairD ((i, c) :: qs) (fun _ δ => ∃ (y6 y8 y10 y11 : Sl), δ = [.o us, .d (.int m), .d (rowsD rs), .d (rulesD rl), .d (.list (marksD G)), .o (pl.map pairD), y6, .d (pairD (i, c)), y8, .un, y10, y11, .un]) ⟨_, _, _, _, rfl⟩ ?_ ?_
          · rintro k ⟨a, b⟩ δ C2 hx2 ⟨y6, y8, y10, y11, rfl⟩ hC2
            have hab : a < rs.length ∧ b < m.toNat := by
              rcases List.mem_cons.mp (List.mem_of_getElem? hx2) with z | z
              · cases z; exact ⟨hi, hc⟩
              · exact b2 _ z
            obtain ⟨ha, hb⟩ := hab
            show wThen _ _ _ _
            refine seqT fun T hT => ?_
            walk_at "ds"
            refine ⟨rfl, m, rs, rl, G, i, c, a, b, rfl, ht, hr, hG, nc, hi, hc, ha, hb, ?_⟩
            walk_at "ds"
            subst hT
            refine seqT fun T hT => ?_
            walk_at "ds"
            refine ⟨⟨rfl, by simp⟩, rfl, m, rs, rl, i, c, a, b, rfl, ht, hr, hf, n5, hi, hc, ha, hb, fun G1 hG1 _ => ?_⟩
            rw [hG1.uniq hG]
            walk_at "ds"
            refine ⟨⟨rfl, by simp⟩, rfl, m, rs, rl, a, b, i, c, rfl, ht, hr, hf, n5, ha, hb, hi, hc, fun G2 hG2 _ => ?_⟩
            rw [hG2.uniq hG, due_sym ht hG nc n5 hi hc ha hb]
            walk_at "ds"
            refine ⟨⟨rfl, by simp⟩, ?_⟩
            subst hT
            walk_at "ds"
            have sd := sm_due (m := m.toNat) (rs := rs) (rl := rl) (G := G) (i := i) (c := c) (a := a) (b := b)
            refine ⟨⟨rfl, by simp⟩, rfl, .list [dueW m.toNat rs rl G i c a b, dueW m.toNat rs rl G i c a b], rfl, ((sm_two sd sd).2).ok (by decide) (by decide), ?_⟩
            walk_at "ds"
            exact ifF rfl (hC2 _ ⟨_, _, _, _, rfl⟩)
          · rintro δ ⟨y6, y8, y10, y11, rfl⟩
            exact hC _ ⟨us, _, _, _, _, _, rfl, b3.mono (by omega)⟩
      · rintro δ ⟨us, y6, y7, y8, y10, y11, rfl, hu⟩
        subst hT
        walk_at "ds"
        exact h us (hu.mono (by omega))
theorem cut_toX (xs : List PyData) (k : Nat) (h : xs.length ≤ k) : Dw.cutD xs none (some (k : Int)) = xs := by
  unfold Dw.cutD
  rw [HT.sIx_none, HT.sIx_nat, List.drop_zero, Nat.sub_zero, Nat.min_eq_right h, List.take_length]
theorem hS_law : ∀ δ P, S_law δ P → ArgOk 1 δ ∧ wb_law (endsOf δ P) (δ ++ List.replicate (7 - 1) Sl.un) := by
  rintro δ P ⟨ns, rfl, hl, h⟩
  refine ⟨argD [.list (ns.map PyData.int)], ?_⟩
  unfold wb_law
  walk_at "ds"
  generalize hk : (if (if (2 : Int) < (((ns.map PyData.int).length : Nat) : Int) then (2 : Int) else (((ns.map PyData.int).length : Nat) : Int)) > 1 then (if (2 : Int) < (((ns.map PyData.int).length : Nat) : Int) then (2 : Int) else (((ns.map PyData.int).length : Nat) : Int)) else 1) = k
  have k0 : 0 ≤ k ∧ k ≤ 2 := by
    rw [← hk]
    split <;> split <;> omega
  refine ⟨⟨by omega, by omega⟩, ?_⟩
  refine loopR k.toNat (fun i δ => ∃ y1 y2 y3 y4 y5 y6, δ = [.d (.list (ns.map PyData.int)), y1, y2, y3, y4, y5, y6]) ⟨_, _, _, _, _, _, rfl⟩ ?_ ?_
  · rintro i δ C hi ⟨y1, y2, y3, y4, y5, y6, rfl⟩ hC
    show wThen _ _ _ _
    refine seqT fun T hT => ?_
    walk_at "ds"
    refine ⟨rfl, ns, _, rfl, by omega, fun v => ?_⟩
    walk_at "ds"
    refine ⟨rfl, v, rfl, fun xs hp => ?_⟩
    walk_at "ds"
    subst hT
    refine seqT fun T hT => ?_
    walk_at "ds"
    refine ⟨⟨by decide, by decide⟩, ?_⟩
    refine loopR (lo := 0) (3 : Int).toNat (fun j δ => ∃ zs y3 y4 y5 y6, δ = [.d (.list (ns.map PyData.int)), .d (.int (0 + (i : Nat))), .o zs, y3, y4, y5, y6] ∧ Pen (1000 * j) zs) ⟨xs, _, _, _, _, rfl, hp⟩ ?_ ?_
    · rintro j δ C2 hj ⟨zs, y3, y4, y5, y6, rfl, hz⟩ hC2
      have hj : j < 3 := hj
      show wThen _ _ _ _
      refine seqT fun T hT => ?_
      walk_at "ds"
      refine ⟨rfl, zs, 1000 * j, 4, rfl, hz, by omega, by decide, by decide, fun us d hu d0 d5 => ?_⟩
      walk_at "ds"
      generalize hm : 1 + d = m
      have m5 : m ≤ 5 := by omega
      subst hT
      refine seqT fun T hT => ?_
      walk_at "ds"
      refine ⟨rfl, us, 1000 * j + 1, m, 4, rfl, hu, by omega, by omega, by omega, by decide, by decide, fun vs rl hv hr => ?_⟩
      walk_at "ds"
      subst hT
      refine seqT fun T hT => ?_
      walk_at "ds"
      refine ⟨rfl, vs, 1000 * j + 101, m, 5, rl, rfl, hv, by omega, by omega, by omega, by decide, by decide, hr, fun ws rs hw ht n5 => ?_⟩
      walk_at "ds"
      subst hT
      walk_at "ds"
      refine ⟨rfl, m, rs, rl, rfl, ht, hr, ?_⟩
      walk_at "ds"
      cases hf : hasF m.toNat rs rl with
      | false => exact ifF rfl (ifF rfl (hC2 _ ⟨ws, _, _, _, _, rfl, hw.mono (by omega)⟩))
      | true =>
      refine ifT rfl ?_
      refine ⟨rfl, ws, _, m, rs, rl, rfl, hw, by omega, ht, hr, hf, n5.2, fun us hu => ?_⟩
      walk_at "ds"
      exact ifF rfl (hC2 _ ⟨us, _, _, _, _, rfl, hu.mono (by omega)⟩)
    · rintro δ ⟨zs, y3, y4, y5, y6, rfl, hz⟩
      have hz : Pen 3000 zs := hz
      subst hT
      dsimp only
      refine seqT fun T hT => ?_
      walk_at "ds"
      refine ⟨rfl, zs, 3000, 5, 8, rfl, hz, by omega, by decide, by decide, by decide, by decide, fun vs rl hv hr => ?_⟩
      walk_at "ds"
      subst hT
      refine seqT fun T hT => ?_
      walk_at "ds"
      refine ⟨rfl, vs, 3100, 5, 8, rl, rfl, hv, by omega, by decide, by decide, by decide, by decide, hr, fun ws rs hw ht n5 => ?_⟩
      have n8 := ht.few
      rw [show rowsD rs = .tuple (rs.map rowD) from rfl]
      walk_at "ds"
      have e8 : Dw.cutD (rs.map rowD) none (some 8) = rs.map rowD := cut_toX _ 8 (by rw [List.length_map]; exact n8)
      rw [e8]
      subst hT
      walk_at "ds"
      refine ⟨rfl, 5, rs, rl, rfl, ht, hr, ?_⟩
      walk_at "ds"
      cases hf : hasF (5 : Int).toNat rs rl with
      | false => exact ifF rfl (ifF rfl (hC _ ⟨_, _, _, _, _, _, rfl⟩))
      | true =>
      refine ifT rfl ?_
      refine ⟨rfl, ws, _, 5, rs, rl, rfl, hw, by omega, ht, hr, hf, n5.2, fun us hu => ?_⟩
      walk_at "ds"
      exact ifF rfl (hC _ ⟨_, _, _, _, _, _, rfl⟩)
  · rintro δ ⟨y1, y2, y3, y4, y5, y6, rfl⟩
    exact h
end B

namespace B
open PySem PySem.Spec PyProof.Rows L2 Dw
def topS (i : Nat) : Stmt := PySem.Challenge.pw_blankcells_k09_relations_told.main.body.getD i (.Pass ⟨0, 0, 0, 0⟩)
section
variable {P : Program} {w : World} {K : PySem.W.Frag} {mg : Str → Option Value} {base : Heap}
abbrev st_is_number : Stmt := topS 12
abbrev N_is_number : List Str := ["thing", "low", "high"]
theorem sc_is_number : FnScope N_is_number ["thing", "low", "high"] (defScope st_is_number) := ⟨rfl, rfl, rfl, by decide +kernel, rfl, by decide +kernel, by decide +kernel⟩
theorem ok_is_number {f : Addr} {fd : FuncData} (F : Fun K "is_number" "is_number" st_is_number f fd) (bl : Bl mg) : FnG P w K mg base CX0 1 f fd ["thing", "low", "high"] (spOf K S_is_number) :=
  fnD (wb := wb_is_number) F sc_is_number (by decide) hS_is_number fun cdv A outer s G E g0 room => by
    have sc := sc_is_number
    exact (ds_one (ds_ret (de_and (de_isi isf_int rfl bl.isinstance (de_v 0) rfl bl.int boot_intT) (de_and (de_not (de_isi isf_bool rfl bl.isinstance (de_v 0) rfl bl.bool boot_boolT)) (de_one (de_lele (de_v 1) (de_v 0) (de_v 2)))))))

abbrev st_is_number_set : Stmt := topS 13
abbrev N_is_number_set : List Str := ["thing", "low", "high", "number", "behind"]
theorem sc_is_number_set : FnScope N_is_number_set ["thing", "low", "high"] (defScope st_is_number_set) := ⟨rfl, rfl, rfl, by decide +kernel, rfl, by decide +kernel, by decide +kernel⟩
theorem ok_is_number_set {f : Addr} {fd : FuncData} (F : Fun K "is_number_set" "is_number_set" st_is_number_set f fd) (bl : Bl mg) (f_is_number : Fn P w K mg base 1 "is_number" S_is_number) : FnG P w K mg base CX0 2 f fd ["thing", "low", "high"] (spOf K S_is_number_set) :=
  fnD (wb := wb_is_number_set) F sc_is_number_set (by decide) hS_is_number_set fun cdv A outer s G E g0 room => by
    have sc := sc_is_number_set
    exact (ds_cons (ds_if (dt_w (dw_or (dt_not (dt_truth (de_isi isf_tuple rfl bl.isinstance (de_v 0) rfl bl.tuple boot_tupleT))) (dw_or1 (dt_not (dt_truth (de_all rfl rfl bl.all (da_cons (de_lc (own := [("number", 3)]) rfl sc.nd (di_seq (de_v 0)) (blkOk_by (N := N_is_number_set) (sc := defScope st_is_number_set) (own := [("number", 3)]) (by decide +kernel)) (fun _ _ _ _ _ => (dg_name 3 sc.nd)) (fun _ _ _ _ _ => dts_nil) (fun _ _ _ _ _ => (de_callF f_is_number g0 (room.mono (by decide)) rfl (da_cons (de_v 3) (da_cons (de_v 1) (da_cons (de_v 2) da_nil)))))) da_nil))))))) (ds_one (ds_ret de_bl)) ds_nil)
      (ds_one (ds_ret (de_all rfl rfl bl.all (da_cons (de_lc (own := [("number", 3), ("behind", 4)]) rfl sc.nd (di_zip rfl bl.zip (da_cons (de_v 0) (da_cons (de_slice (de_v 0) (do_some de_int) do_none) da_nil))) (blkOk_by (N := N_is_number_set) (sc := defScope st_is_number_set) (own := [("number", 3), ("behind", 4)]) (by decide +kernel)) (fun _ _ _ _ _ => (dg_tup rfl (dgs_cons (dg_name 3 sc.nd) (dgs_cons (dg_name 4 sc.nd) dgs_nil)))) (fun _ _ _ _ _ => dts_nil) (fun _ _ _ _ _ => (de_lt (de_v 3) (de_v 4)))) da_nil)))))

abbrev st_is_many : Stmt := topS 14
abbrev N_is_many : List Str := ["thing"]
theorem sc_is_many : FnScope N_is_many ["thing"] (defScope st_is_many) := ⟨rfl, rfl, rfl, by decide +kernel, rfl, by decide +kernel, by decide +kernel⟩
theorem ok_is_many {f : Addr} {fd : FuncData} {t_MOST_COLUMNS : Tok} (F : Fun K "is_many" "is_many" st_is_many f fd) (bl : Bl mg) (c_MOST_COLUMNS : mg "MOST_COLUMNS" = some (.int 5 t_MOST_COLUMNS)) (f_is_number : Fn P w K mg base 1 "is_number" S_is_number) : FnG P w K mg base CX0 2 f fd ["thing"] (spOf K S_is_many) :=
  fnD (wb := wb_is_many) F sc_is_many (by decide) hS_is_many fun cdv A outer s G E g0 room => by
    have sc := sc_is_many
    exact (ds_one (ds_ret (de_callF f_is_number g0 (room.mono (by decide)) rfl (da_cons (de_v 0) (da_cons de_int (da_cons (de_globI rfl c_MOST_COLUMNS) da_nil))))))

abbrev st_is_column : Stmt := topS 15
abbrev N_is_column : List Str := ["many", "thing"]
theorem sc_is_column : FnScope N_is_column ["many", "thing"] (defScope st_is_column) := ⟨rfl, rfl, rfl, by decide +kernel, rfl, by decide +kernel, by decide +kernel⟩
theorem ok_is_column {f : Addr} {fd : FuncData} (F : Fun K "is_column" "is_column" st_is_column f fd) (bl : Bl mg) (f_is_number : Fn P w K mg base 1 "is_number" S_is_number) : FnG P w K mg base CX0 2 f fd ["many", "thing"] (spOf K S_is_column) :=
  fnD (wb := wb_is_column) F sc_is_column (by decide) hS_is_column fun cdv A outer s G E g0 room => by
    have sc := sc_is_column
    exact (ds_one (ds_ret (de_callF f_is_number g0 (room.mono (by decide)) rfl (da_cons (de_v 1) (da_cons de_int (da_cons (de_sub (de_v 0) de_int) da_nil))))))

abbrev st_is_cell : Stmt := topS 16
abbrev N_is_cell : List Str := ["thing"]
theorem sc_is_cell : FnScope N_is_cell ["thing"] (defScope st_is_cell) := ⟨rfl, rfl, rfl, by decide +kernel, rfl, by decide +kernel, by decide +kernel⟩
theorem ok_is_cell {f : Addr} {fd : FuncData} {t_HIGHEST_VALUE : Tok} (F : Fun K "is_cell" "is_cell" st_is_cell f fd) (bl : Bl mg) (c_HIGHEST_VALUE : mg "HIGHEST_VALUE" = some (.int 9999 t_HIGHEST_VALUE)) (f_is_number : Fn P w K mg base 1 "is_number" S_is_number) : FnG P w K mg base CX0 2 f fd ["thing"] (spOf K S_is_cell) :=
  fnD (wb := wb_is_cell) F sc_is_cell (by decide) hS_is_cell fun cdv A outer s G E g0 room => by
    have sc := sc_is_cell
    exact (ds_one (ds_ret (de_or (de_is (de_v 0) de_non) (de_one (de_callF f_is_number g0 (room.mono (by decide)) rfl (da_cons (de_v 0) (da_cons de_int (da_cons (de_globI rfl c_HIGHEST_VALUE) da_nil))))))))

abbrev st_is_row : Stmt := topS 17
abbrev N_is_row : List Str := ["many", "thing", "cell"]
theorem sc_is_row : FnScope N_is_row ["many", "thing"] (defScope st_is_row) := ⟨rfl, rfl, rfl, by decide +kernel, rfl, by decide +kernel, by decide +kernel⟩
theorem ok_is_row {f : Addr} {fd : FuncData} (F : Fun K "is_row" "is_row" st_is_row f fd) (bl : Bl mg) (f_is_cell : Fn P w K mg base 2 "is_cell" S_is_cell) : FnG P w K mg base CX0 3 f fd ["many", "thing"] (spOf K S_is_row) :=
  fnD (wb := wb_is_row) F sc_is_row (by decide) hS_is_row fun cdv A outer s G E g0 room => by
    have sc := sc_is_row
    exact (ds_one (ds_ret (de_and (de_isi isf_tuple rfl bl.isinstance (de_v 1) rfl bl.tuple boot_tupleT) (de_and (de_eq room.units (de_len rfl bl.len (da_cons (de_v 1) da_nil)) (de_v 0)) (de_one (de_all rfl rfl bl.all (da_cons (de_lc (own := [("cell", 2)]) rfl sc.nd (di_seq (de_v 1)) (blkOk_by (N := N_is_row) (sc := defScope st_is_row) (own := [("cell", 2)]) (by decide +kernel)) (fun _ _ _ _ _ => (dg_name 2 sc.nd)) (fun _ _ _ _ _ => dts_nil) (fun _ _ _ _ _ => (de_callF f_is_cell g0 (room.mono (by decide)) rfl (da_cons (de_v 2) da_nil)))) da_nil)))))))

abbrev st_are_rows : Stmt := topS 18
abbrev N_are_rows : List Str := ["many", "thing", "row"]
theorem sc_are_rows : FnScope N_are_rows ["many", "thing"] (defScope st_are_rows) := ⟨rfl, rfl, rfl, by decide +kernel, rfl, by decide +kernel, by decide +kernel⟩
theorem ok_are_rows {f : Addr} {fd : FuncData} {t_MOST_ROWS : Tok} (F : Fun K "are_rows" "are_rows" st_are_rows f fd) (bl : Bl mg) (c_MOST_ROWS : mg "MOST_ROWS" = some (.int 8 t_MOST_ROWS)) (f_is_row : Fn P w K mg base 3 "is_row" S_is_row) : FnG P w K mg base CX0 4 f fd ["many", "thing"] (spOf K S_are_rows) :=
  fnD (wb := wb_are_rows) F sc_are_rows (by decide) hS_are_rows fun cdv A outer s G E g0 room => by
    have sc := sc_are_rows
    exact (ds_one (ds_ret (de_and (de_isi isf_tuple rfl bl.isinstance (de_v 1) rfl bl.tuple boot_tupleT) (de_and (de_le (de_len rfl bl.len (da_cons (de_v 1) da_nil)) (de_globI rfl c_MOST_ROWS)) (de_one (de_all rfl rfl bl.all (da_cons (de_lc (own := [("row", 2)]) rfl sc.nd (di_seq (de_v 1)) (blkOk_by (N := N_are_rows) (sc := defScope st_are_rows) (own := [("row", 2)]) (by decide +kernel)) (fun _ _ _ _ _ => (dg_name 2 sc.nd)) (fun _ _ _ _ _ => dts_nil) (fun _ _ _ _ _ => (de_callF f_is_row g0 (room.mono (by decide)) rfl (da_cons (de_v 0) (da_cons (de_v 2) da_nil))))) da_nil)))))))

abbrev st_is_table : Stmt := topS 19
abbrev N_is_table : List Str := ["thing"]
theorem sc_is_table : FnScope N_is_table ["thing"] (defScope st_is_table) := ⟨rfl, rfl, rfl, by decide +kernel, rfl, by decide +kernel, by decide +kernel⟩
theorem ok_is_table {f : Addr} {fd : FuncData} (F : Fun K "is_table" "is_table" st_is_table f fd) (bl : Bl mg) (f_is_many : Fn P w K mg base 2 "is_many" S_is_many) (f_are_rows : Fn P w K mg base 4 "are_rows" S_are_rows) : FnG P w K mg base CX0 5 f fd ["thing"] (spOf K S_is_table) :=
  fnD (wb := wb_is_table) F sc_is_table (by decide) hS_is_table fun cdv A outer s G E g0 room => by
    have sc := sc_is_table
    exact (ds_one (ds_ret (de_and (de_isi isf_tuple rfl bl.isinstance (de_v 0) rfl bl.tuple boot_tupleT) (de_and (de_eq room.units (de_len rfl bl.len (da_cons (de_v 0) da_nil)) de_int) (de_and (de_callF f_is_many g0 (room.mono (by decide)) rfl (da_cons (de_ix (de_v 0) de_int) da_nil)) (de_one (de_callF f_are_rows g0 (room.mono (by decide)) rfl (da_cons (de_ix (de_v 0) de_int) (da_cons (de_ix (de_v 0) de_int) da_nil)))))))))

abbrev st_is_place : Stmt := topS 20
abbrev N_is_place : List Str := ["table", "thing", "row", "column"]
theorem sc_is_place : FnScope N_is_place ["table", "thing"] (defScope st_is_place) := ⟨rfl, rfl, rfl, by decide +kernel, rfl, by decide +kernel, by decide +kernel⟩
theorem ok_is_place {f : Addr} {fd : FuncData} (F : Fun K "is_place" "is_place" st_is_place f fd) (bl : Bl mg) (f_is_number : Fn P w K mg base 1 "is_number" S_is_number) (f_is_column : Fn P w K mg base 2 "is_column" S_is_column) : FnG P w K mg base CX0 3 f fd ["table", "thing"] (spOf K S_is_place) :=
  fnD (wb := wb_is_place) F sc_is_place (by decide) hS_is_place fun cdv A outer s G E g0 room => by
    have sc := sc_is_place
    exact (ds_cons (ds_if (dt_w (dw_or (dt_not (dt_truth (de_isi isf_tuple rfl bl.isinstance (de_v 1) rfl bl.tuple boot_tupleT))) (dw_or1 (dt_ne room.units (de_len rfl bl.len (da_cons (de_v 1) da_nil)) de_int)))) (ds_one (ds_ret de_bl)) ds_nil)
      (ds_cons (ds_asg (de_v 1) (dg_tup rfl (dgs_cons (dg_name 2 sc.nd) (dgs_cons (dg_name 3 sc.nd) dgs_nil))))
      (ds_one (ds_ret (de_and (de_callF f_is_number g0 (room.mono (by decide)) rfl (da_cons (de_v 2) (da_cons de_int (da_cons (de_sub (de_len rfl bl.len (da_cons (de_ix (de_v 0) de_int) da_nil)) de_int) da_nil)))) (de_one (de_callF f_is_column g0 (room.mono (by decide)) rfl (da_cons (de_ix (de_v 0) de_int) (da_cons (de_v 3) da_nil)))))))))

abbrev st_are_columns : Stmt := topS 21
abbrev N_are_columns : List Str := ["many", "thing"]
theorem sc_are_columns : FnScope N_are_columns ["many", "thing"] (defScope st_are_columns) := ⟨rfl, rfl, rfl, by decide +kernel, rfl, by decide +kernel, by decide +kernel⟩
theorem ok_are_columns {f : Addr} {fd : FuncData} (F : Fun K "are_columns" "are_columns" st_are_columns f fd) (bl : Bl mg) (f_is_number_set : Fn P w K mg base 2 "is_number_set" S_is_number_set) : FnG P w K mg base CX0 3 f fd ["many", "thing"] (spOf K S_are_columns) :=
  fnD (wb := wb_are_columns) F sc_are_columns (by decide) hS_are_columns fun cdv A outer s G E g0 room => by
    have sc := sc_are_columns
    exact (ds_one (ds_ret (de_callF f_is_number_set g0 (room.mono (by decide)) rfl (da_cons (de_v 1) (da_cons de_int (da_cons (de_sub (de_v 0) de_int) da_nil))))))

abbrev st_is_rule : Stmt := topS 22
abbrev N_is_rule : List Str := ["many", "thing", "given", "then"]
theorem sc_is_rule : FnScope N_is_rule ["many", "thing"] (defScope st_is_rule) := ⟨rfl, rfl, rfl, by decide +kernel, rfl, by decide +kernel, by decide +kernel⟩
theorem ok_is_rule {f : Addr} {fd : FuncData} (F : Fun K "is_rule" "is_rule" st_is_rule f fd) (bl : Bl mg) (f_are_columns : Fn P w K mg base 3 "are_columns" S_are_columns) (f_is_column : Fn P w K mg base 2 "is_column" S_is_column) : FnG P w K mg base CX0 4 f fd ["many", "thing"] (spOf K S_is_rule) :=
  fnD (wb := wb_is_rule) F sc_is_rule (by decide) hS_is_rule fun cdv A outer s G E g0 room => by
    have sc := sc_is_rule
    exact (ds_cons (ds_if (dt_w (dw_or (dt_not (dt_truth (de_isi isf_tuple rfl bl.isinstance (de_v 1) rfl bl.tuple boot_tupleT))) (dw_or1 (dt_ne room.units (de_len rfl bl.len (da_cons (de_v 1) da_nil)) de_int)))) (ds_one (ds_ret de_bl)) ds_nil)
      (ds_cons (ds_asg (de_v 1) (dg_tup rfl (dgs_cons (dg_name 2 sc.nd) (dgs_cons (dg_name 3 sc.nd) dgs_nil))))
      (ds_one (ds_ret (de_and (de_callF f_are_columns g0 (room.mono (by decide)) rfl (da_cons (de_v 0) (da_cons (de_v 2) da_nil))) (de_and (de_callF f_is_column g0 (room.mono (by decide)) rfl (da_cons (de_v 0) (da_cons (de_v 3) da_nil))) (de_one (de_notin (de_v 3) (de_v 2)))))))))

abbrev st_are_rules : Stmt := topS 23
abbrev N_are_rules : List Str := ["many", "thing", "rule"]
theorem sc_are_rules : FnScope N_are_rules ["many", "thing"] (defScope st_are_rules) := ⟨rfl, rfl, rfl, by decide +kernel, rfl, by decide +kernel, by decide +kernel⟩
theorem ok_are_rules {f : Addr} {fd : FuncData} {t_MOST_RULES : Tok} (F : Fun K "are_rules" "are_rules" st_are_rules f fd) (bl : Bl mg) (c_MOST_RULES : mg "MOST_RULES" = some (.int 8 t_MOST_RULES)) (f_need_many : Fn P w K mg base 3 "need_many" S_need_many) (f_is_rule : Fn P w K mg base 4 "is_rule" S_is_rule) : FnG P w K mg base CX0 5 f fd ["many", "thing"] (spOf K S_are_rules) :=
  fnD (wb := wb_are_rules) F sc_are_rules (by decide) hS_are_rules fun cdv A outer s G E g0 room => by
    have sc := sc_are_rules
    exact (ds_cons (ds_expr (de_callF f_need_many g0 (room.mono (by decide)) rfl (da_cons (de_v 0) da_nil)))
      (ds_one (ds_ret (de_and (de_isi isf_tuple rfl bl.isinstance (de_v 1) rfl bl.tuple boot_tupleT) (de_and (de_le (de_len rfl bl.len (da_cons (de_v 1) da_nil)) (de_globI rfl c_MOST_RULES)) (de_one (de_all rfl rfl bl.all (da_cons (de_lc (own := [("rule", 2)]) rfl sc.nd (di_seq (de_v 1)) (blkOk_by (N := N_are_rules) (sc := defScope st_are_rules) (own := [("rule", 2)]) (by decide +kernel)) (fun _ _ _ _ _ => (dg_name 2 sc.nd)) (fun _ _ _ _ _ => dts_nil) (fun _ _ _ _ _ => (de_callF f_is_rule g0 (room.mono (by decide)) rfl (da_cons (de_v 0) (da_cons (de_v 2) da_nil))))) da_nil))))))))

abbrev st_need_table : Stmt := topS 24
abbrev N_need_table : List Str := ["thing"]
theorem sc_need_table : FnScope N_need_table ["thing"] (defScope st_need_table) := ⟨rfl, rfl, rfl, by decide +kernel, rfl, by decide +kernel, by decide +kernel⟩
theorem ok_need_table {f : Addr} {fd : FuncData} (F : Fun K "need_table" "need_table" st_need_table f fd) (bl : Bl mg) (f_is_table : Fn P w K mg base 5 "is_table" S_is_table) : FnG P w K mg base CX0 6 f fd ["thing"] (spOf K S_need_table) :=
  fnD (wb := wb_need_table) F sc_need_table (by decide) hS_need_table fun cdv A outer s G E g0 room => by
    have sc := sc_need_table
    exact (ds_one (ds_if (dt_not (dt_truth (de_callF f_is_table g0 (room.mono (by decide)) rfl (da_cons (de_v 0) da_nil)))) (ds_one ds_never) ds_nil))

abbrev st_need_many : Stmt := topS 25
abbrev N_need_many : List Str := ["thing"]
theorem sc_need_many : FnScope N_need_many ["thing"] (defScope st_need_many) := ⟨rfl, rfl, rfl, by decide +kernel, rfl, by decide +kernel, by decide +kernel⟩
theorem ok_need_many {f : Addr} {fd : FuncData} (F : Fun K "need_many" "need_many" st_need_many f fd) (bl : Bl mg) (f_is_many : Fn P w K mg base 2 "is_many" S_is_many) : FnG P w K mg base CX0 3 f fd ["thing"] (spOf K S_need_many) :=
  fnD (wb := wb_need_many) F sc_need_many (by decide) hS_need_many fun cdv A outer s G E g0 room => by
    have sc := sc_need_many
    exact (ds_one (ds_if (dt_not (dt_truth (de_callF f_is_many g0 (room.mono (by decide)) rfl (da_cons (de_v 0) da_nil)))) (ds_one ds_never) ds_nil))

abbrev st_need_rules : Stmt := topS 26
abbrev N_need_rules : List Str := ["many", "thing"]
theorem sc_need_rules : FnScope N_need_rules ["many", "thing"] (defScope st_need_rules) := ⟨rfl, rfl, rfl, by decide +kernel, rfl, by decide +kernel, by decide +kernel⟩
theorem ok_need_rules {f : Addr} {fd : FuncData} (F : Fun K "need_rules" "need_rules" st_need_rules f fd) (bl : Bl mg) (f_are_rules : Fn P w K mg base 5 "are_rules" S_are_rules) : FnG P w K mg base CX0 6 f fd ["many", "thing"] (spOf K S_need_rules) :=
  fnD (wb := wb_need_rules) F sc_need_rules (by decide) hS_need_rules fun cdv A outer s G E g0 room => by
    have sc := sc_need_rules
    exact (ds_one (ds_if (dt_not (dt_truth (de_callF f_are_rules g0 (room.mono (by decide)) rfl (da_cons (de_v 0) (da_cons (de_v 1) da_nil))))) (ds_one ds_never) ds_nil))

abbrev st_need_place : Stmt := topS 27
abbrev N_need_place : List Str := ["table", "thing"]
theorem sc_need_place : FnScope N_need_place ["table", "thing"] (defScope st_need_place) := ⟨rfl, rfl, rfl, by decide +kernel, rfl, by decide +kernel, by decide +kernel⟩
theorem ok_need_place {f : Addr} {fd : FuncData} (F : Fun K "need_place" "need_place" st_need_place f fd) (bl : Bl mg) (f_is_place : Fn P w K mg base 3 "is_place" S_is_place) : FnG P w K mg base CX0 4 f fd ["table", "thing"] (spOf K S_need_place) :=
  fnD (wb := wb_need_place) F sc_need_place (by decide) hS_need_place fun cdv A outer s G E g0 room => by
    have sc := sc_need_place
    exact (ds_one (ds_if (dt_not (dt_truth (de_callF f_is_place g0 (room.mono (by decide)) rfl (da_cons (de_v 0) (da_cons (de_v 1) da_nil))))) (ds_one ds_never) ds_nil))

abbrev st_with_cells : Stmt := topS 28
abbrev N_with_cells : List Str := ["table", "cells", "row", "old", "column", "cell"]
theorem sc_with_cells : FnScope N_with_cells ["table", "cells"] (defScope st_with_cells) := ⟨rfl, rfl, rfl, by decide +kernel, rfl, by decide +kernel, by decide +kernel⟩
theorem ok_with_cells {f : Addr} {fd : FuncData} (F : Fun K "with_cells" "with_cells" st_with_cells f fd) (bl : Bl mg) : FnG P w K mg base CX0 1 f fd ["table", "cells"] (spOf K S_with_cells) :=
  fnD (wb := wb_with_cells) F sc_with_cells (by decide) hS_with_cells fun cdv A outer s G E g0 room => by
    have sc := sc_with_cells
    exact (ds_one (ds_ret (de_tup (da_cons (de_ix (de_v 0) de_int) (da_cons (de_tuple rfl bl.tuple (da_cons (de_lc (own := [("row", 2), ("old", 3)]) rfl sc.nd (di_enum rfl bl.enumerate (da_cons (de_ix (de_v 0) de_int) da_nil)) (blkOk_by (N := N_with_cells) (sc := defScope st_with_cells) (own := [("row", 2), ("old", 3)]) (by decide +kernel)) (fun _ _ _ _ _ => (dg_tup rfl (dgs_cons (dg_name 2 sc.nd) (dgs_cons (dg_name 3 sc.nd) dgs_nil)))) (fun _ _ _ _ _ => dts_nil) (fun _ _ _ _ _ => (de_tuple rfl bl.tuple (da_cons (de_lc (own := [("column", 4), ("cell", 5)]) rfl sc.nd (di_enum rfl bl.enumerate (da_cons (de_v 3) da_nil)) (blkOk_by (N := N_with_cells) (sc := relS _ (defScope st_with_cells)) (own := [("column", 4), ("cell", 5)]) (by decide +kernel)) (fun _ _ _ _ _ => (dg_tup rfl (dgs_cons (dg_name 4 sc.nd) (dgs_cons (dg_name 5 sc.nd) dgs_nil)))) (fun _ _ _ _ _ => dts_nil) (fun _ _ _ _ _ => (de_get2 room.units (de_v 1) (de_tup (da_cons (de_v 2) (da_cons (de_v 4) da_nil))) (de_v 5)))) da_nil)))) da_nil)) da_nil)))))

abbrev st_keeps_values : Stmt := topS 29
abbrev N_keeps_values : List Str := ["rows", "others", "cells", "other_cells", "cell", "other"]
theorem sc_keeps_values : FnScope N_keeps_values ["rows", "others"] (defScope st_keeps_values) := ⟨rfl, rfl, rfl, by decide +kernel, rfl, by decide +kernel, by decide +kernel⟩
theorem ok_keeps_values {f : Addr} {fd : FuncData} (F : Fun K "keeps_values" "keeps_values" st_keeps_values f fd) (bl : Bl mg) : FnG P w K mg base CX0 1 f fd ["rows", "others"] (spOf K S_keeps_values) :=
  fnD (wb := wb_keeps_values) F sc_keeps_values (by decide) hS_keeps_values fun cdv A outer s G E g0 room => by
    have sc := sc_keeps_values
    exact (ds_one (ds_ret (de_all rfl rfl bl.all (da_cons (de_lc2 (own := [("cells", 2), ("other_cells", 3), ("cell", 4), ("other", 5)]) (vs1 := [4, 5]) rfl sc.nd (di_zip rfl bl.zip (da_cons (de_v 0) (da_cons (de_v 1) da_nil))) (blkOk_by (N := N_keeps_values) (sc := defScope st_keeps_values) (own := [("cells", 2), ("other_cells", 3), ("cell", 4), ("other", 5)]) (by decide +kernel)) (by decide) (fun _ _ _ _ _ => (dg_tup rfl (dgs_cons (dg_name 2 sc.nd) (dgs_cons (dg_name 3 sc.nd) dgs_nil)))) (fun _ _ _ _ _ => dts_nil) (fun _ _ _ _ _ => (di_zip rfl bl.zip (da_cons (de_v 2) (da_cons (de_v 3) da_nil)))) (fun _ _ _ _ _ => (dg_tup rfl (dgs_cons (dg_name 4 sc.nd) (dgs_cons (dg_name 5 sc.nd) dgs_nil)))) (fun _ _ _ _ _ => dts_nil) (fun _ _ _ _ _ => (de_or (de_is (de_v 4) de_non) (de_one (de_eq room.units (de_v 4) (de_v 5)))))) da_nil))))

abbrev st_row_pairs : Stmt := topS 30
abbrev N_row_pairs : List Str := ["amount", "row", "other"]
theorem sc_row_pairs : FnScope N_row_pairs ["amount"] (defScope st_row_pairs) := ⟨rfl, rfl, rfl, by decide +kernel, rfl, by decide +kernel, by decide +kernel⟩
theorem ok_row_pairs {f : Addr} {fd : FuncData} (F : Fun K "row_pairs" "row_pairs" st_row_pairs f fd) (bl : Bl mg) : FnG P w K mg base CX0 1 f fd ["amount"] (spOf K S_row_pairs) :=
  fnD (wb := wb_row_pairs) F sc_row_pairs (by decide) hS_row_pairs fun cdv A outer s G E g0 room => by
    have sc := sc_row_pairs
    exact (ds_one (ds_ret (de_lc2 (own := [("row", 1), ("other", 2)]) (vs1 := [2]) rfl sc.nd (di_range1 rfl bl.range (da_cons (de_v 0) da_nil)) (blkOk_by (N := N_row_pairs) (sc := defScope st_row_pairs) (own := [("row", 1), ("other", 2)]) (by decide +kernel)) (by decide) (fun _ _ _ _ _ => (dg_name 1 sc.nd)) (fun _ _ _ _ _ => dts_nil) (fun _ _ _ _ _ => (di_range2 rfl bl.range (da_cons (de_add (de_v 1) de_int) (da_cons (de_v 0) da_nil)))) (fun _ _ _ _ _ => (dg_name 2 sc.nd)) (fun _ _ _ _ _ => dts_nil) (fun _ _ _ _ _ => (de_tup (da_cons (de_v 1) (da_cons (de_v 2) da_nil)))))))

abbrev st_value_marks : Stmt := topS 32
abbrev N_value_marks : List Str := ["table", "many", "rows", "column", "cells"]
theorem sc_value_marks : FnScope N_value_marks ["table"] (defScope st_value_marks) := ⟨rfl, rfl, rfl, by decide +kernel, rfl, by decide +kernel, by decide +kernel⟩
theorem ok_value_marks {f : Addr} {fd : FuncData} (F : Fun K "value_marks" "value_marks" st_value_marks f fd) (bl : Bl mg) (f_column_marks : Fn P w K mg base 1 "column_marks" S_column_marks) : FnG P w K mg base CX0 2 f fd ["table"] (spOf K S_value_marks) :=
  fnD (wb := wb_value_marks) F sc_value_marks (by decide) hS_value_marks fun cdv A outer s G E g0 room => by
    have sc := sc_value_marks
    exact (ds_cons (ds_asg (de_v 0) (dg_tup rfl (dgs_cons (dg_name 1 sc.nd) (dgs_cons (dg_name 2 sc.nd) dgs_nil))))
      (ds_one (ds_ret (de_lc (own := [("column", 3)]) rfl sc.nd (di_range1 rfl bl.range (da_cons (de_v 1) da_nil)) (blkOk_by (N := N_value_marks) (sc := defScope st_value_marks) (own := [("column", 3)]) (by decide +kernel)) (fun _ _ _ _ _ => (dg_name 3 sc.nd)) (fun _ _ _ _ _ => dts_nil) (fun _ _ _ _ _ => (de_callF f_column_marks g0 (room.mono (by decide)) rfl (da_cons (de_lc (own := [("cells", 4)]) rfl sc.nd (di_seq (de_v 2)) (blkOk_by (N := N_value_marks) (sc := relS _ (defScope st_value_marks)) (own := [("cells", 4)]) (by decide +kernel)) (fun _ _ _ _ _ => (dg_name 4 sc.nd)) (fun _ _ _ _ _ => dts_nil) (fun _ _ _ _ _ => (de_ix (de_v 4) (de_v 3)))) da_nil)))))))

abbrev st_column_marks : Stmt := topS 33
abbrev N_column_marks : List Str := ["cells", "row", "cell"]
theorem sc_column_marks : FnScope N_column_marks ["cells"] (defScope st_column_marks) := ⟨rfl, rfl, rfl, by decide +kernel, rfl, by decide +kernel, by decide +kernel⟩
theorem ok_column_marks {f : Addr} {fd : FuncData} (F : Fun K "column_marks" "column_marks" st_column_marks f fd) (bl : Bl mg) : FnG P w K mg base CX0 1 f fd ["cells"] (spOf K S_column_marks) :=
  fnD (wb := wb_column_marks) F sc_column_marks (by decide) hS_column_marks fun cdv A outer s G E g0 room => by
    have sc := sc_column_marks
    exact (ds_one (ds_ret (de_lc (own := [("row", 1), ("cell", 2)]) rfl sc.nd (di_enum rfl bl.enumerate (da_cons (de_v 0) da_nil)) (blkOk_by (N := N_column_marks) (sc := defScope st_column_marks) (own := [("row", 1), ("cell", 2)]) (by decide +kernel)) (fun _ _ _ _ _ => (dg_tup rfl (dgs_cons (dg_name 1 sc.nd) (dgs_cons (dg_name 2 sc.nd) dgs_nil)))) (fun _ _ _ _ _ => dts_nil) (fun _ _ _ _ _ => (de_if (dt_is (de_v 2) de_non) (de_v 1) (de_index 0 (de_v 2)))))))

abbrev st_are_joined : Stmt := topS 34
abbrev N_are_joined : List Str := ["marks", "columns", "row", "other", "column"]
theorem sc_are_joined : FnScope N_are_joined ["marks", "columns", "row", "other"] (defScope st_are_joined) := ⟨rfl, rfl, rfl, by decide +kernel, rfl, by decide +kernel, by decide +kernel⟩
theorem ok_are_joined {f : Addr} {fd : FuncData} (F : Fun K "are_joined" "are_joined" st_are_joined f fd) (bl : Bl mg) : FnG P w K mg base CX0 1 f fd ["marks", "columns", "row", "other"] (spOf K S_are_joined) :=
  fnD (wb := wb_are_joined) F sc_are_joined (by decide) hS_are_joined fun cdv A outer s G E g0 room => by
    have sc := sc_are_joined
    exact (ds_one (ds_ret (de_all rfl rfl bl.all (da_cons (de_lc (own := [("column", 4)]) rfl sc.nd (di_seq (de_v 1)) (blkOk_by (N := N_are_joined) (sc := defScope st_are_joined) (own := [("column", 4)]) (by decide +kernel)) (fun _ _ _ _ _ => (dg_name 4 sc.nd)) (fun _ _ _ _ _ => dts_nil) (fun _ _ _ _ _ => (de_eq room.units (de_ix (de_ix (de_v 0) (de_v 4)) (de_v 2)) (de_ix (de_ix (de_v 0) (de_v 4)) (de_v 3))))) da_nil))))

abbrev st_join_cells : Stmt := topS 35
abbrev N_join_cells : List Str := ["marks", "column", "row", "other", "old", "kept", "gone", "mark"]
theorem sc_join_cells : FnScope N_join_cells ["marks", "column", "row", "other"] (defScope st_join_cells) := ⟨rfl, rfl, rfl, by decide +kernel, rfl, by decide +kernel, by decide +kernel⟩
theorem ok_join_cells {f : Addr} {fd : FuncData} (F : Fun K "join_cells" "join_cells" st_join_cells f fd) (bl : Bl mg) : FnG P w K mg base CX0 1 f fd ["marks", "column", "row", "other"] (spOf K S_join_cells) :=
  fnD (wb := wb_join_cells) F sc_join_cells (by decide) hS_join_cells fun cdv A outer s G E g0 room => by
    have sc := sc_join_cells
    exact (ds_cons (ds_set 4 sc.nd (de_ix (de_v 0) (de_v 1)))
      (ds_cons (ds_set 5 sc.nd (de_min2 rfl rfl bl.min (da_cons (de_ix (de_v 4) (de_v 2)) (da_cons (de_ix (de_v 4) (de_v 3)) da_nil))))
      (ds_cons (ds_set 6 sc.nd (de_max2 rfl rfl bl.max (da_cons (de_ix (de_v 4) (de_v 2)) (da_cons (de_ix (de_v 4) (de_v 3)) da_nil))))
      (ds_one (ds_setI 0 (de_v 1) (de_lc (own := [("mark", 7)]) rfl sc.nd (di_seq (de_v 4)) (blkOk_by (N := N_join_cells) (sc := defScope st_join_cells) (own := [("mark", 7)]) (by decide +kernel)) (fun _ _ _ _ _ => (dg_name 7 sc.nd)) (fun _ _ _ _ _ => dts_nil) (fun _ _ _ _ _ => (de_if (dt_eq room.units (de_v 7) (de_v 6)) (de_v 5) (de_v 7)))))))))

abbrev st_is_possible : Stmt := topS 36
abbrev N_is_possible : List Str := ["marks", "rules", "step", "number", "row", "other"]
theorem sc_is_possible : FnScope N_is_possible ["marks", "rules", "step"] (defScope st_is_possible) := ⟨rfl, rfl, rfl, by decide +kernel, rfl, by decide +kernel, by decide +kernel⟩
theorem ok_is_possible {f : Addr} {fd : FuncData} (F : Fun K "is_possible" "is_possible" st_is_possible f fd) (bl : Bl mg) (f_are_joined : Fn P w K mg base 1 "are_joined" S_are_joined) : FnG P w K mg base CX0 2 f fd ["marks", "rules", "step"] (spOf K S_is_possible) :=
  fnD (wb := wb_is_possible) F sc_is_possible (by decide) hS_is_possible fun cdv A outer s G E g0 room => by
    have sc := sc_is_possible
    exact (ds_cons (ds_asg (de_v 2) (dg_tup rfl (dgs_cons (dg_name 3 sc.nd) (dgs_cons (dg_name 4 sc.nd) (dgs_cons (dg_name 5 sc.nd) dgs_nil)))))
      (ds_one (ds_ret (de_callOF 0 f_are_joined g0 (room.mono (by decide)) rfl (da_cons (de_ix (de_ix (de_v 1) (de_v 3)) de_int) (da_cons (de_v 4) (da_cons (de_v 5) da_nil)))))))

abbrev st_take_step : Stmt := topS 37
abbrev N_take_step : List Str := ["marks", "rules", "step", "number", "row", "other"]
theorem sc_take_step : FnScope N_take_step ["marks", "rules", "step"] (defScope st_take_step) := ⟨rfl, rfl, rfl, by decide +kernel, rfl, by decide +kernel, by decide +kernel⟩
theorem ok_take_step {f : Addr} {fd : FuncData} (F : Fun K "take_step" "take_step" st_take_step f fd) (bl : Bl mg) (f_join_cells : Fn P w K mg base 1 "join_cells" S_join_cells) : FnG P w K mg base CX0 2 f fd ["marks", "rules", "step"] (spOf K S_take_step) :=
  fnD (wb := wb_take_step) F sc_take_step (by decide) hS_take_step fun cdv A outer s G E g0 room => by
    have sc := sc_take_step
    exact (ds_cons (ds_asg (de_v 2) (dg_tup rfl (dgs_cons (dg_name 3 sc.nd) (dgs_cons (dg_name 4 sc.nd) (dgs_cons (dg_name 5 sc.nd) dgs_nil)))))
      (ds_one (ds_expr (de_callOF 0 f_join_cells g0 (room.mono (by decide)) rfl (da_cons (de_ix (de_ix (de_v 1) (de_v 3)) de_int) (da_cons (de_v 4) (da_cons (de_v 5) da_nil)))))))

abbrev st_take_rule_steps : Stmt := topS 38
abbrev N_take_rule_steps : List Str := ["marks", "rules", "number", "amount", "then", "taken", "row", "other", "step"]
theorem sc_take_rule_steps : FnScope N_take_rule_steps ["marks", "rules", "number", "amount"] (defScope st_take_rule_steps) := ⟨rfl, rfl, rfl, by decide +kernel, rfl, by decide +kernel, by decide +kernel⟩
theorem ok_take_rule_steps {f : Addr} {fd : FuncData} (F : Fun K "take_rule_steps" "take_rule_steps" st_take_rule_steps f fd) (bl : Bl mg) (f_row_pairs : Fn P w K mg base 1 "row_pairs" S_row_pairs) (f_is_possible : Fn P w K mg base 2 "is_possible" S_is_possible) (f_take_step : Fn P w K mg base 2 "take_step" S_take_step) (f_are_joined : Fn P w K mg base 1 "are_joined" S_are_joined) : FnG P w K mg base CX0 3 f fd ["marks", "rules", "number", "amount"] (spOf K S_take_rule_steps) :=
  fnD (wb := wb_take_rule_steps) F sc_take_rule_steps (by decide) hS_take_rule_steps fun cdv A outer s G E g0 room => by
    have sc := sc_take_rule_steps
    exact (ds_cons (ds_set 4 sc.nd (de_ix (de_ix (de_v 1) (de_v 2)) de_int))
      (ds_cons (ds_set 5 sc.nd (de_lst da_nil))
      (ds_cons (ds_for PassesOwn.never rfl (di_seq (de_callF f_row_pairs g0 (room.mono (by decide)) rfl (da_cons (de_v 3) da_nil))) (dg_tup rfl (dgs_cons (dg_name 6 sc.nd) (dgs_cons (dg_name 7 sc.nd) dgs_nil))) (ds_cons (ds_set 8 sc.nd (de_tup (da_cons (de_v 2) (da_cons (de_v 6) (da_cons (de_v 7) da_nil)))))
      (ds_one (ds_if (dt_w (dw_and (dt_truth (de_callOF 0 f_is_possible g0 (room.mono (by decide)) rfl (da_cons (de_v 1) (da_cons (de_v 8) da_nil)))) (dw_and1 (dt_not (dt_truth (de_callOF 0 f_are_joined g0 (room.mono (by decide)) rfl (da_cons (de_tup (da_cons (de_v 4) da_nil)) (da_cons (de_v 6) (da_cons (de_v 7) da_nil))))))))) (ds_cons (ds_expr (de_callOF 0 f_take_step g0 (room.mono (by decide)) rfl (da_cons (de_v 1) (da_cons (de_v 8) da_nil))))
      (ds_one (ds_expr (de_append 5 (de_v 8))))) ds_nil))))
      (ds_one (ds_ret (de_v 5))))))

abbrev st_take_all_steps : Stmt := topS 39
abbrev N_take_all_steps : List Str := ["marks", "rules", "amount", "taken", "before", "number"]
theorem sc_take_all_steps : FnScope N_take_all_steps ["marks", "rules", "amount"] (defScope st_take_all_steps) := ⟨rfl, rfl, rfl, by decide +kernel, rfl, by decide +kernel, by decide +kernel⟩
theorem ok_take_all_steps {f : Addr} {fd : FuncData} (F : Fun K "take_all_steps" "take_all_steps" st_take_all_steps f fd) (bl : Bl mg) (f_take_rule_steps : Fn P w K mg base 3 "take_rule_steps" S_take_rule_steps) : FnG P w K mg base CX0 4 f fd ["marks", "rules", "amount"] (spOf K S_take_all_steps) :=
  fnD (wb := wb_take_all_steps) F sc_take_all_steps (by decide) hS_take_all_steps fun cdv A outer s G E g0 room => by
    have sc := sc_take_all_steps
    exact (ds_cons (ds_set 3 sc.nd (de_lst da_nil))
      (ds_cons (ds_set 4 sc.nd (de_neg de_int))
      (ds_cons (ds_while PassesOwn.never (dt_ne room.units (de_v 4) (de_len rfl bl.len (da_cons (de_v 3) da_nil))) (ds_cons (ds_set 4 sc.nd (de_len rfl bl.len (da_cons (de_v 3) da_nil)))
      (ds_one (ds_for PassesOwn.never rfl (di_range1 rfl bl.range (da_cons (de_len rfl bl.len (da_cons (de_v 1) da_nil)) da_nil)) (dg_name 5 sc.nd) (ds_one (ds_expr (de_extendL 3 (de_callOF 0 f_take_rule_steps g0 (room.mono (by decide)) rfl (da_cons (de_v 1) (da_cons (de_v 5) (da_cons (de_v 2) da_nil)))))))))))
      (ds_one (ds_ret (de_v 3))))))

abbrev st_joined_marks : Stmt := topS 40
abbrev N_joined_marks : List Str := ["table", "rules", "marks"]
theorem sc_joined_marks : FnScope N_joined_marks ["table", "rules"] (defScope st_joined_marks) := ⟨rfl, rfl, rfl, by decide +kernel, rfl, by decide +kernel, by decide +kernel⟩
theorem ok_joined_marks {f : Addr} {fd : FuncData} (F : Fun K "joined_marks" "joined_marks" st_joined_marks f fd) (bl : Bl mg) (f_value_marks : Fn P w K mg base 2 "value_marks" S_value_marks) (f_take_all_steps : Fn P w K mg base 4 "take_all_steps" S_take_all_steps) : FnG P w K mg base CX0 5 f fd ["table", "rules"] (spOf K S_joined_marks) :=
  fnD (wb := wb_joined_marks) F sc_joined_marks (by decide) hS_joined_marks fun cdv A outer s G E g0 room => by
    have sc := sc_joined_marks
    exact (ds_cons (ds_set 2 sc.nd (de_callF f_value_marks g0 (room.mono (by decide)) rfl (da_cons (de_v 0) da_nil)))
      (ds_cons (ds_expr (de_callOF 2 f_take_all_steps g0 (room.mono (by decide)) rfl (da_cons (de_v 1) (da_cons (de_len rfl bl.len (da_cons (de_ix (de_v 0) de_int) da_nil)) da_nil))))
      (ds_one (ds_ret (de_v 2)))))

abbrev st_lot_values : Stmt := topS 41
abbrev N_lot_values : List Str := ["table", "marks", "many", "rows", "column", "mark", "cells"]
theorem sc_lot_values : FnScope N_lot_values ["table", "marks"] (defScope st_lot_values) := ⟨rfl, rfl, rfl, by decide +kernel, rfl, by decide +kernel, by decide +kernel⟩
theorem ok_lot_values {f : Addr} {fd : FuncData} (F : Fun K "lot_values" "lot_values" st_lot_values f fd) (bl : Bl mg) : FnG P w K mg base CX0 1 f fd ["table", "marks"] (spOf K S_lot_values) :=
  fnD (wb := wb_lot_values) F sc_lot_values (by decide) hS_lot_values fun cdv A outer s G E g0 room => by
    have sc := sc_lot_values
    exact (ds_cons (ds_asg (de_v 0) (dg_tup rfl (dgs_cons (dg_name 2 sc.nd) (dgs_cons (dg_name 3 sc.nd) dgs_nil))))
      (ds_one (ds_ret (de_lc (own := [("column", 4)]) rfl sc.nd (di_range1 rfl bl.range (da_cons (de_v 2) da_nil)) (blkOk_by (N := N_lot_values) (sc := defScope st_lot_values) (own := [("column", 4)]) (by decide +kernel)) (fun _ _ _ _ _ => (dg_name 4 sc.nd)) (fun _ _ _ _ _ => dts_nil) (fun _ _ _ _ _ => (de_dc (own := [("mark", 5), ("cells", 6)]) rfl sc.nd (di_zip rfl bl.zip (da_cons (de_ix (de_v 1) (de_v 4)) (da_cons (de_v 3) da_nil))) (blkOk_by (N := N_lot_values) (sc := relS _ (defScope st_lot_values)) (own := [("mark", 5), ("cells", 6)]) (by decide +kernel)) (fun _ _ _ _ _ => (dg_tup rfl (dgs_cons (dg_name 5 sc.nd) (dgs_cons (dg_name 6 sc.nd) dgs_nil)))) (fun _ _ _ _ _ => (dts_one (dt_isnot (de_ix (de_v 6) (de_v 4)) de_non))) (fun _ _ _ _ _ => (de_v 5)) (fun _ _ _ _ _ => (de_ix (de_v 6) (de_v 4)))))))))

abbrev st_known_rows : Stmt := topS 42
abbrev N_known_rows : List Str := ["table", "marks", "values", "many", "rows", "row", "column"]
theorem sc_known_rows : FnScope N_known_rows ["table", "marks"] (defScope st_known_rows) := ⟨rfl, rfl, rfl, by decide +kernel, rfl, by decide +kernel, by decide +kernel⟩
theorem ok_known_rows {f : Addr} {fd : FuncData} (F : Fun K "known_rows" "known_rows" st_known_rows f fd) (bl : Bl mg) (f_lot_values : Fn P w K mg base 1 "lot_values" S_lot_values) : FnG P w K mg base CX0 2 f fd ["table", "marks"] (spOf K S_known_rows) :=
  fnD (wb := wb_known_rows) F sc_known_rows (by decide) hS_known_rows fun cdv A outer s G E g0 room => by
    have sc := sc_known_rows
    exact (ds_cons (ds_asg (de_v 0) (dg_tup rfl (dgs_cons (dg_name 3 sc.nd) (dgs_cons (dg_name 4 sc.nd) dgs_nil))))
      (ds_cons (ds_setD 2 sc.nd (de_callF f_lot_values g0 (room.mono (by decide)) rfl (da_cons (de_v 0) (da_cons (de_v 1) da_nil))))
      (ds_one (ds_ret (de_tuple rfl bl.tuple (da_cons (de_lc (own := [("row", 5)]) rfl sc.nd (di_range1 rfl bl.range (da_cons (de_len rfl bl.len (da_cons (de_v 4) da_nil)) da_nil)) (blkOk_by (N := N_known_rows) (sc := defScope st_known_rows) (own := [("row", 5)]) (by decide +kernel)) (fun _ _ _ _ _ => (dg_name 5 sc.nd)) (fun _ _ _ _ _ => dts_nil) (fun _ _ _ _ _ => (de_tuple rfl bl.tuple (da_cons (de_lc (own := [("column", 6)]) rfl sc.nd (di_range1 rfl bl.range (da_cons (de_v 3) da_nil)) (blkOk_by (N := N_known_rows) (sc := relS _ (defScope st_known_rows)) (own := [("column", 6)]) (by decide +kernel)) (fun _ _ _ _ _ => (dg_name 6 sc.nd)) (fun _ _ _ _ _ => dts_nil) (fun _ _ _ _ _ => (de_get1 room.units (de_ix (de_v 2) (de_v 6)) (de_ix (de_ix (de_v 1) (de_v 6)) (de_v 5))))) da_nil)))) da_nil))))))

abbrev st_has_clash : Stmt := topS 43
abbrev N_has_clash : List Str := ["table", "marks"]
theorem sc_has_clash : FnScope N_has_clash ["table", "marks"] (defScope st_has_clash) := ⟨rfl, rfl, rfl, by decide +kernel, rfl, by decide +kernel, by decide +kernel⟩
theorem ok_has_clash {f : Addr} {fd : FuncData} (F : Fun K "has_clash" "has_clash" st_has_clash f fd) (bl : Bl mg) (f_keeps_values : Fn P w K mg base 1 "keeps_values" S_keeps_values) (f_known_rows : Fn P w K mg base 2 "known_rows" S_known_rows) : FnG P w K mg base CX0 3 f fd ["table", "marks"] (spOf K S_has_clash) :=
  fnD (wb := wb_has_clash) F sc_has_clash (by decide) hS_has_clash fun cdv A outer s G E g0 room => by
    have sc := sc_has_clash
    exact (ds_one (ds_ret (de_not (de_callF f_keeps_values g0 (room.mono (by decide)) rfl (da_cons (de_ix (de_v 0) de_int) (da_cons (de_callF f_known_rows g0 (room.mono (by decide)) rfl (da_cons (de_v 0) (da_cons (de_v 1) da_nil))) da_nil))))))

abbrev st_has_filling : Stmt := topS 44
abbrev N_has_filling : List Str := ["table", "rules"]
theorem sc_has_filling : FnScope N_has_filling ["table", "rules"] (defScope st_has_filling) := ⟨rfl, rfl, rfl, by decide +kernel, rfl, by decide +kernel, by decide +kernel⟩
theorem ok_has_filling {f : Addr} {fd : FuncData} (F : Fun K "has_filling" "has_filling" st_has_filling f fd) (bl : Bl mg) (f_has_clash : Fn P w K mg base 3 "has_clash" S_has_clash) (f_joined_marks : Fn P w K mg base 5 "joined_marks" S_joined_marks) : FnG P w K mg base CX0 6 f fd ["table", "rules"] (spOf K S_has_filling) :=
  fnD (wb := wb_has_filling) F sc_has_filling (by decide) hS_has_filling fun cdv A outer s G E g0 room => by
    have sc := sc_has_filling
    exact (ds_one (ds_ret (de_not (de_callF f_has_clash g0 (room.mono (by decide)) rfl (da_cons (de_v 0) (da_cons (de_callF f_joined_marks g0 (room.mono (by decide)) rfl (da_cons (de_v 0) (da_cons (de_v 1) da_nil))) da_nil))))))

abbrev st_filling_marks : Stmt := topS 46
abbrev N_filling_marks : List Str := ["table", "rules", "marks"]
theorem sc_filling_marks : FnScope N_filling_marks ["table", "rules"] (defScope st_filling_marks) := ⟨rfl, rfl, rfl, by decide +kernel, rfl, by decide +kernel, by decide +kernel⟩
theorem ok_filling_marks {f : Addr} {fd : FuncData} (F : Fun K "filling_marks" "filling_marks" st_filling_marks f fd) (bl : Bl mg) (f_joined_marks : Fn P w K mg base 5 "joined_marks" S_joined_marks) (f_has_clash : Fn P w K mg base 3 "has_clash" S_has_clash) : FnG P w K mg base CX0 6 f fd ["table", "rules"] (spOf K S_filling_marks) :=
  fnD (wb := wb_filling_marks) F sc_filling_marks (by decide) hS_filling_marks fun cdv A outer s G E g0 room => by
    have sc := sc_filling_marks
    exact (ds_cons (ds_setD 2 sc.nd (de_callF f_joined_marks g0 (room.mono (by decide)) rfl (da_cons (de_v 0) (da_cons (de_v 1) da_nil))))
      (ds_cons (ds_if (dt_truth (de_callF f_has_clash g0 (room.mono (by decide)) rfl (da_cons (de_v 0) (da_cons (de_v 2) da_nil)))) (ds_one ds_never) ds_nil)
      (ds_one (ds_ret (de_v 2)))))

abbrev st_with_value : Stmt := topS 48
abbrev N_with_value : List Str := ["table", "place", "value", "cell", "row", "column"]
theorem sc_with_value : FnScope N_with_value ["table", "place", "value"] (defScope st_with_value) := ⟨rfl, rfl, rfl, by decide +kernel, rfl, by decide +kernel, by decide +kernel⟩
theorem ok_with_value {f : Addr} {fd : FuncData} (F : Fun K "with_value" "with_value" st_with_value f fd) (bl : Bl mg) (f_with_cells : Fn P w K mg base 1 "with_cells" S_with_cells) : FnG P w K mg base CX0 2 f fd ["table", "place", "value"] (spOf K S_with_value) :=
  fnD (wb := wb_with_value) F sc_with_value (by decide) hS_with_value fun cdv A outer s G E g0 room => by
    have sc := sc_with_value
    exact (ds_cons (ds_asg (de_v 1) (dg_tup rfl (dgs_cons (dg_name 4 sc.nd) (dgs_cons (dg_name 5 sc.nd) dgs_nil))))
      (ds_cons (ds_set 3 sc.nd (de_ix (de_ix (de_ix (de_v 0) de_int) (de_v 4)) (de_v 5)))
      (ds_cons (ds_if (dt_w (dw_and (dt_isnot (de_v 3) de_non) (dw_and1 (dt_ne room.units (de_v 3) (de_v 2))))) (ds_one (ds_ret de_non)) ds_nil)
      (ds_one (ds_ret (de_callF f_with_cells g0 (room.mono (by decide)) rfl (da_cons (de_v 0) (da_cons (de_disp1 room.units (de_v 1) (de_v 2)) da_nil))))))))

abbrev st_can_be : Stmt := topS 49
abbrev N_can_be : List Str := ["table", "rules", "place", "value", "written"]
theorem sc_can_be : FnScope N_can_be ["table", "rules", "place", "value"] (defScope st_can_be) := ⟨rfl, rfl, rfl, by decide +kernel, rfl, by decide +kernel, by decide +kernel⟩
theorem ok_can_be {f : Addr} {fd : FuncData} (F : Fun K "can_be" "can_be" st_can_be f fd) (bl : Bl mg) (f_with_value : Fn P w K mg base 2 "with_value" S_with_value) (f_has_filling : Fn P w K mg base 6 "has_filling" S_has_filling) : FnG P w K mg base CX0 7 f fd ["table", "rules", "place", "value"] (spOf K S_can_be) :=
  fnD (wb := wb_can_be) F sc_can_be (by decide) hS_can_be fun cdv A outer s G E g0 room => by
    have sc := sc_can_be
    exact (ds_cons (ds_set 4 sc.nd (de_callF f_with_value g0 (room.mono (by decide)) rfl (da_cons (de_v 0) (da_cons (de_v 2) (da_cons (de_v 3) da_nil)))))
      (ds_one (ds_ret (de_and (de_isnot (de_v 4) de_non) (de_one (de_callF f_has_filling g0 (room.mono (by decide)) rfl (da_cons (de_v 4) (da_cons (de_v 1) da_nil))))))))

abbrev st_column_relation : Stmt := topS 50
abbrev N_column_relation : List Str := ["table", "rules", "marks", "column", "rows", "more", "row", "other"]
theorem sc_column_relation : FnScope N_column_relation ["table", "rules", "marks", "column", "rows"] (defScope st_column_relation) := ⟨rfl, rfl, rfl, by decide +kernel, rfl, by decide +kernel, by decide +kernel⟩
theorem ok_column_relation {f : Addr} {fd : FuncData} (F : Fun K "column_relation" "column_relation" st_column_relation f fd) (bl : Bl mg) (f_are_joined : Fn P w K mg base 1 "are_joined" S_are_joined) (f_join_cells : Fn P w K mg base 1 "join_cells" S_join_cells) (f_take_all_steps : Fn P w K mg base 4 "take_all_steps" S_take_all_steps) (f_has_clash : Fn P w K mg base 3 "has_clash" S_has_clash) : FnG P w K mg base CX0 5 f fd ["table", "rules", "marks", "column", "rows"] (spOf K S_column_relation) :=
  fnD (wb := wb_column_relation) F sc_column_relation (by decide) hS_column_relation fun cdv A outer s G E g0 room => by
    have sc := sc_column_relation
    exact (ds_cons (ds_asg (de_v 4) (dg_tup rfl (dgs_cons (dg_name 6 sc.nd) (dgs_cons (dg_name 7 sc.nd) dgs_nil))))
      (ds_cons (ds_if (dt_truth (de_callF f_are_joined g0 (room.mono (by decide)) rfl (da_cons (de_v 2) (da_cons (de_tup (da_cons (de_v 3) da_nil)) (da_cons (de_v 6) (da_cons (de_v 7) da_nil)))))) (ds_one (ds_ret de_str)) ds_nil)
      (ds_cons (ds_set 5 sc.nd (de_list rfl bl.list (da_cons (de_v 2) da_nil)))
      (ds_cons (ds_expr (de_callOF 5 f_join_cells g0 (room.mono (by decide)) rfl (da_cons (de_v 3) (da_cons (de_v 6) (da_cons (de_v 7) da_nil)))))
      (ds_cons (ds_expr (de_callOF 5 f_take_all_steps g0 (room.mono (by decide)) rfl (da_cons (de_v 1) (da_cons (de_len rfl bl.len (da_cons (de_ix (de_v 0) de_int) da_nil)) da_nil))))
      (ds_one (ds_ret (de_if (dt_truth (de_callSF f_has_clash g0 (room.mono (by decide)) rfl (da_cons (de_v 0) (da_cons (de_v 5) da_nil)))) de_str de_str))))))))

abbrev st_known_relation : Stmt := topS 51
abbrev N_known_relation : List Str := ["table", "rules", "value", "place"]
theorem sc_known_relation : FnScope N_known_relation ["table", "rules", "value", "place"] (defScope st_known_relation) := ⟨rfl, rfl, rfl, by decide +kernel, rfl, by decide +kernel, by decide +kernel⟩
theorem ok_known_relation {f : Addr} {fd : FuncData} (F : Fun K "known_relation" "known_relation" st_known_relation f fd) (bl : Bl mg) (f_can_be : Fn P w K mg base 7 "can_be" S_can_be) : FnG P w K mg base CX0 8 f fd ["table", "rules", "value", "place"] (spOf K S_known_relation) :=
  fnD (wb := wb_known_relation) F sc_known_relation (by decide) hS_known_relation fun cdv A outer s G E g0 room => by
    have sc := sc_known_relation
    exact (ds_one (ds_ret (de_if (dt_truth (de_callF f_can_be g0 (room.mono (by decide)) rfl (da_cons (de_v 0) (da_cons (de_v 1) (da_cons (de_v 3) (da_cons (de_v 2) da_nil)))))) de_str de_str)))

abbrev st_relation : Stmt := topS 52
abbrev N_relation : List Str := ["table", "rules", "place", "other", "marks", "known", "value", "other_value"]
theorem sc_relation : FnScope N_relation ["table", "rules", "place", "other"] (defScope st_relation) := ⟨rfl, rfl, rfl, by decide +kernel, rfl, by decide +kernel, by decide +kernel⟩
theorem ok_relation {f : Addr} {fd : FuncData} (F : Fun K "relation" "relation" st_relation f fd) (bl : Bl mg) (f_need_table : Fn P w K mg base 6 "need_table" S_need_table) (f_need_rules : Fn P w K mg base 6 "need_rules" S_need_rules) (f_need_place : Fn P w K mg base 4 "need_place" S_need_place) (f_filling_marks : Fn P w K mg base 6 "filling_marks" S_filling_marks) (f_known_rows : Fn P w K mg base 2 "known_rows" S_known_rows) (f_column_relation : Fn P w K mg base 5 "column_relation" S_column_relation) (f_known_relation : Fn P w K mg base 8 "known_relation" S_known_relation) : FnG P w K mg base CX0 9 f fd ["table", "rules", "place", "other"] (spOf K S_relation) :=
  fnD (wb := wb_relation) F sc_relation (by decide) hS_relation fun cdv A outer s G E g0 room => by
    have sc := sc_relation
    exact (ds_cons (ds_expr (de_callF f_need_table g0 (room.mono (by decide)) rfl (da_cons (de_v 0) da_nil)))
      (ds_cons (ds_expr (de_callF f_need_rules g0 (room.mono (by decide)) rfl (da_cons (de_ix (de_v 0) de_int) (da_cons (de_v 1) da_nil))))
      (ds_cons (ds_expr (de_callF f_need_place g0 (room.mono (by decide)) rfl (da_cons (de_v 0) (da_cons (de_v 2) da_nil))))
      (ds_cons (ds_expr (de_callF f_need_place g0 (room.mono (by decide)) rfl (da_cons (de_v 0) (da_cons (de_v 3) da_nil))))
      (ds_cons (ds_setD 4 sc.nd (de_callF f_filling_marks g0 (room.mono (by decide)) rfl (da_cons (de_v 0) (da_cons (de_v 1) da_nil))))
      (ds_cons (ds_if (dt_eq room.units (de_ix (de_v 2) de_int) (de_ix (de_v 3) de_int)) (ds_one (ds_ret (de_callF f_column_relation g0 (room.mono (by decide)) rfl (da_cons (de_v 0) (da_cons (de_v 1) (da_cons (de_v 4) (da_cons (de_ix (de_v 2) de_int) (da_cons (de_tup (da_cons (de_ix (de_v 2) de_int) (da_cons (de_ix (de_v 3) de_int) da_nil))) da_nil)))))))) ds_nil)
      (ds_cons (ds_set 5 sc.nd (de_callF f_known_rows g0 (room.mono (by decide)) rfl (da_cons (de_v 0) (da_cons (de_v 4) da_nil))))
      (ds_cons (ds_set 6 sc.nd (de_ix (de_ix (de_v 5) (de_ix (de_v 2) de_int)) (de_ix (de_v 2) de_int)))
      (ds_cons (ds_set 7 sc.nd (de_ix (de_ix (de_v 5) (de_ix (de_v 3) de_int)) (de_ix (de_v 3) de_int)))
      (ds_cons (ds_if (dt_w (dw_and (dt_is (de_v 6) de_non) (dw_and1 (dt_is (de_v 7) de_non)))) (ds_one (ds_ret de_str)) ds_nil)
      (ds_cons (ds_if (dt_is (de_v 6) de_non) (ds_one (ds_ret (de_callF f_known_relation g0 (room.mono (by decide)) rfl (da_cons (de_v 0) (da_cons (de_v 1) (da_cons (de_v 7) (da_cons (de_v 2) da_nil))))))) ds_nil)
      (ds_cons (ds_if (dt_is (de_v 7) de_non) (ds_one (ds_ret (de_callF f_known_relation g0 (room.mono (by decide)) rfl (da_cons (de_v 0) (da_cons (de_v 1) (da_cons (de_v 6) (da_cons (de_v 3) da_nil))))))) ds_nil)
      (ds_one (ds_ret (de_if (dt_eq room.units (de_v 6) (de_v 7)) de_str de_str)))))))))))))))

abbrev st_law_values : Stmt := topS 54
abbrev N_law_values : List Str := ["_law_rows_here", "_law_groups", "_law_column", "_law_first", "_law_found", "_law_at", "_law_row"]
theorem sc_law_values : FnScope N_law_values ["_law_rows_here", "_law_groups", "_law_column", "_law_first"] (defScope st_law_values) := ⟨rfl, rfl, rfl, by decide +kernel, rfl, by decide +kernel, by decide +kernel⟩
theorem ok_law_values {f : Addr} {fd : FuncData} (F : Fun K "_law_values" "_law_values" st_law_values f fd) (bl : Bl mg) : FnG P w K mg base CX0 1 f fd ["_law_rows_here", "_law_groups", "_law_column", "_law_first"] (spOf K S_law_values) :=
  fnD (wb := wb_law_values) F sc_law_values (by decide) hS_law_values fun cdv A outer s G E g0 room => by
    have sc := sc_law_values
    exact (ds_cons (ds_set 4 sc.nd (de_lst da_nil))
      (ds_cons (ds_for PassesOwn.never rfl (di_enum rfl bl.enumerate (da_cons (de_v 0) da_nil)) (dg_tup rfl (dgs_cons (dg_name 5 sc.nd) (dgs_cons (dg_name 6 sc.nd) dgs_nil))) (ds_one (ds_if (dt_w (dw_and (dt_eq room.units (de_ix (de_ix (de_v 1) (de_v 2)) (de_v 5)) (de_v 3)) (dw_and (dt_isnot (de_ix (de_v 6) (de_v 2)) de_non) (dw_and1 (dt_notin (de_ix (de_v 6) (de_v 2)) (de_v 4)))))) (ds_one (ds_expr (de_append 4 (de_ix (de_v 6) (de_v 2))))) ds_nil)))
      (ds_one (ds_ret (de_v 4)))))

abbrev st_law_joined : Stmt := topS 55
abbrev N_law_joined : List Str := ["_law_many", "_law_rows_here", "_law_rules_here", "_law_groups", "_law_column", "_law_again", "_law_cells", "_law_given", "_law_then", "_law_high", "_law_row", "_law_low", "_law_group", "_law_is_able", "_law_at", "_law_cell", "_law_least", "_law_most", "_law_one"]
theorem sc_law_joined : FnScope N_law_joined ["_law_many", "_law_rows_here", "_law_rules_here"] (defScope st_law_joined) := ⟨rfl, rfl, rfl, by decide +kernel, rfl, by decide +kernel, by decide +kernel⟩
theorem ok_law_joined {f : Addr} {fd : FuncData} (F : Fun K "_law_joined" "_law_joined" st_law_joined f fd) (bl : Bl mg) : FnG P w K mg base CX0 1 f fd ["_law_many", "_law_rows_here", "_law_rules_here"] (spOf K S_law_joined) :=
  fnD (wb := wb_law_joined) F sc_law_joined (by decide) hS_law_joined fun cdv A outer s G E g0 room => by
    have sc := sc_law_joined
    exact (ds_cons (ds_set 3 sc.nd (de_lst da_nil))
      (ds_cons (ds_for PassesOwn.never rfl (di_range1 rfl bl.range (da_cons (de_v 0) da_nil)) (dg_name 4 sc.nd) (ds_cons (ds_setD 6 sc.nd (de_lc (own := [("_law_row", 10)]) rfl sc.nd (di_seq (de_v 1)) (blkOk_by (N := N_law_joined) (sc := defScope st_law_joined) (own := [("_law_row", 10)]) (by decide +kernel)) (fun _ _ _ _ _ => (dg_name 10 sc.nd)) (fun _ _ _ _ _ => dts_nil) (fun _ _ _ _ _ => (de_ix (de_v 10) (de_v 4)))))
      (ds_one (ds_expr (de_append 3 (de_lc (own := [("_law_at", 14), ("_law_cell", 15)]) rfl sc.nd (di_enum rfl bl.enumerate (da_cons (de_v 6) da_nil)) (blkOk_by (N := N_law_joined) (sc := defScope st_law_joined) (own := [("_law_at", 14), ("_law_cell", 15)]) (by decide +kernel)) (fun _ _ _ _ _ => (dg_tup rfl (dgs_cons (dg_name 14 sc.nd) (dgs_cons (dg_name 15 sc.nd) dgs_nil)))) (fun _ _ _ _ _ => dts_nil) (fun _ _ _ _ _ => (de_if (dt_is (de_v 15) de_non) (de_v 14) (de_index 6 (de_v 15))))))))))
      (ds_cons (ds_set 5 sc.nd de_bl)
      (ds_cons (ds_while PassesOwn.never (dt_truth (de_v 5)) (ds_cons (ds_set 5 sc.nd de_bl)
      (ds_one (ds_for PassesOwn.never rfl (di_seq (de_v 2)) (dg_tup rfl (dgs_cons (dg_name 7 sc.nd) (dgs_cons (dg_name 8 sc.nd) dgs_nil))) (ds_one (ds_for PassesOwn.never rfl (di_range1 rfl bl.range (da_cons (de_len rfl bl.len (da_cons (de_v 1) da_nil)) da_nil)) (dg_name 9 sc.nd) (ds_one (ds_for PassesOwn.never rfl (di_range1 rfl bl.range (da_cons (de_v 9) da_nil)) (dg_name 11 sc.nd) (ds_cons (ds_set 12 sc.nd (de_ix (de_v 3) (de_v 8)))
      (ds_cons (ds_forget [4] (ds_set 13 sc.nd (de_eq room.units (de_lc (own := [("_law_column", 4)]) rfl sc.nd (di_seq (de_v 7)) (blkOk_by (N := N_law_joined) (sc := defScope st_law_joined) (own := [("_law_column", 4)]) (by decide +kernel)) (fun _ _ _ _ _ => (dg_name 4 sc.nd)) (fun _ _ _ _ _ => (dts_one (dt_ne room.units (de_ix (de_ix (de_v 3) (de_v 4)) (de_v 11)) (de_ix (de_ix (de_v 3) (de_v 4)) (de_v 9))))) (fun _ _ _ _ _ => de_int)) (de_lst da_nil))))
      (ds_one (ds_if (dt_w (dw_and (dt_truth (de_v 13)) (dw_and1 (dt_ne room.units (de_ix (de_v 12) (de_v 11)) (de_ix (de_v 12) (de_v 9)))))) (ds_cons (ds_pair 16 17 rfl sc.nd (de_min2 rfl rfl bl.min (da_cons (de_ix (de_v 12) (de_v 11)) (da_cons (de_ix (de_v 12) (de_v 9)) da_nil))) (de_max2 rfl rfl bl.max (da_cons (de_ix (de_v 12) (de_v 11)) (da_cons (de_ix (de_v 12) (de_v 9)) da_nil))))
      (ds_cons (ds_setI 3 (de_v 8) (de_lc (own := [("_law_one", 18)]) rfl sc.nd (di_seq (de_v 12)) (blkOk_by (N := N_law_joined) (sc := defScope st_law_joined) (own := [("_law_one", 18)]) (by decide +kernel)) (fun _ _ _ _ _ => (dg_name 18 sc.nd)) (fun _ _ _ _ _ => dts_nil) (fun _ _ _ _ _ => (de_if (dt_eq room.units (de_v 18) (de_v 17)) (de_v 16) (de_v 18)))))
      (ds_one (ds_set 5 sc.nd de_bl)))) ds_nil))))))))))))
      (ds_one (ds_ret (de_v 3)))))))

abbrev st_law_is_clash : Stmt := topS 56
abbrev N_law_is_clash : List Str := ["_law_rows_here", "_law_groups", "_law_column", "_law_group", "_law_first"]
theorem sc_law_is_clash : FnScope N_law_is_clash ["_law_rows_here", "_law_groups"] (defScope st_law_is_clash) := ⟨rfl, rfl, rfl, by decide +kernel, rfl, by decide +kernel, by decide +kernel⟩
theorem ok_law_is_clash {f : Addr} {fd : FuncData} (F : Fun K "_law_is_clash" "_law_is_clash" st_law_is_clash f fd) (bl : Bl mg) (f_law_values : Fn P w K mg base 1 "_law_values" S_law_values) : FnG P w K mg base CX0 2 f fd ["_law_rows_here", "_law_groups"] (spOf K S_law_is_clash) :=
  fnD (wb := wb_law_is_clash) F sc_law_is_clash (by decide) hS_law_is_clash fun cdv A outer s G E g0 room => by
    have sc := sc_law_is_clash
    exact (ds_cons (ds_for PassesOwn.never rfl (di_enum rfl bl.enumerate (da_cons (de_v 1) da_nil)) (dg_tup rfl (dgs_cons (dg_name 2 sc.nd) (dgs_cons (dg_name 3 sc.nd) dgs_nil))) (ds_one (ds_if (dt_ne room.units (de_lc (own := [("_law_first", 4)]) rfl sc.nd (di_seq (de_v 3)) (blkOk_by (N := N_law_is_clash) (sc := defScope st_law_is_clash) (own := [("_law_first", 4)]) (by decide +kernel)) (fun _ _ _ _ _ => (dg_name 4 sc.nd)) (fun _ _ _ _ _ => (dts_one (dt_gt (de_len rfl bl.len (da_cons (de_callF f_law_values g0 (room.mono (by decide)) rfl (da_cons (de_v 0) (da_cons (de_v 1) (da_cons (de_v 2) (da_cons (de_v 4) da_nil))))) da_nil)) de_int))) (fun _ _ _ _ _ => de_int)) (de_lst da_nil)) (ds_one (ds_ret de_bl)) ds_nil)))
      (ds_one (ds_ret de_bl)))

abbrev st_law_has_filling : Stmt := topS 57
abbrev N_law_has_filling : List Str := ["_law_many", "_law_rows_here", "_law_rules_here"]
theorem sc_law_has_filling : FnScope N_law_has_filling ["_law_many", "_law_rows_here", "_law_rules_here"] (defScope st_law_has_filling) := ⟨rfl, rfl, rfl, by decide +kernel, rfl, by decide +kernel, by decide +kernel⟩
theorem ok_law_has_filling {f : Addr} {fd : FuncData} (F : Fun K "_law_has_filling" "_law_has_filling" st_law_has_filling f fd) (bl : Bl mg) (f_law_is_clash : Fn P w K mg base 2 "_law_is_clash" S_law_is_clash) (f_law_joined : Fn P w K mg base 1 "_law_joined" S_law_joined) : FnG P w K mg base CX0 3 f fd ["_law_many", "_law_rows_here", "_law_rules_here"] (spOf K S_law_has_filling) :=
  fnD (wb := wb_law_has_filling) F sc_law_has_filling (by decide) hS_law_has_filling fun cdv A outer s G E g0 room => by
    have sc := sc_law_has_filling
    exact (ds_one (ds_ret (de_not (de_callF f_law_is_clash g0 (room.mono (by decide)) rfl (da_cons (de_v 1) (da_cons (de_callF f_law_joined g0 (room.mono (by decide)) rfl (da_cons (de_v 0) (da_cons (de_v 1) (da_cons (de_v 2) da_nil)))) da_nil))))))

abbrev st_law_same : Stmt := topS 58
abbrev N_law_same : List Str := ["_law_found", "_law_due_here"]
theorem sc_law_same : FnScope N_law_same ["_law_found", "_law_due_here"] (defScope st_law_same) := ⟨rfl, rfl, rfl, by decide +kernel, rfl, by decide +kernel, by decide +kernel⟩
theorem ok_law_same {f : Addr} {fd : FuncData} (F : Fun K "_law_same" "_law_same" st_law_same f fd) (bl : Bl mg) : FnG P w K mg base CX0 1 f fd ["_law_found", "_law_due_here"] (spOf K S_law_same) :=
  fnD (wb := wb_law_same) F sc_law_same (by decide) hS_law_same fun cdv A outer s G E g0 room => by
    have sc := sc_law_same
    exact (ds_one (ds_ret (de_eq room.units (de_repr g0 (hu80 room) rfl bl.repr (da_cons (de_v 0) da_nil)) (de_repr g0 (hu80 room) rfl bl.repr (da_cons (de_v 1) da_nil)))))

abbrev st_law_pen : Stmt := topS 59
abbrev N_law_pen : List Str := ["_law_cell"]
theorem sc_law_pen : FnScope N_law_pen ["_law_cell"] (defScope st_law_pen) := ⟨rfl, rfl, rfl, by decide +kernel, rfl, by decide +kernel, by decide +kernel⟩
theorem ok_law_pen {f : Addr} {fd : FuncData} (F : Fun K "_law_pen" "_law_pen" st_law_pen f fd) (bl : Bl mg) : FnG P w K mg base CX0 1 f fd ["_law_cell"] (spOf K S_law_pen) :=
  fnD (wb := wb_law_pen) F sc_law_pen (by decide) hS_law_pen fun cdv A outer s G E g0 room => by
    have sc := sc_law_pen
    exact (ds_one (ds_ret (de_lst (da_cons (de_max2 rfl rfl bl.max (da_cons de_int (da_cons (de_sub (de_v 0) (de_pow de_int de_int)) da_nil))) (da_cons (de_mod (de_v 0) de_int) (da_cons de_int da_nil))))))

abbrev st_law_cell_at : Stmt := topS 60
abbrev N_law_cell_at : List Str := ["_law_script", "_law_k"]
theorem sc_law_cell_at : FnScope N_law_cell_at ["_law_script", "_law_k"] (defScope st_law_cell_at) := ⟨rfl, rfl, rfl, by decide +kernel, rfl, by decide +kernel, by decide +kernel⟩
theorem ok_law_cell_at {f : Addr} {fd : FuncData} (F : Fun K "_law_cell_at" "_law_cell_at" st_law_cell_at f fd) (bl : Bl mg) : FnG P w K mg base CX0 1 f fd ["_law_script", "_law_k"] (spOf K S_law_cell_at) :=
  fnD (wb := wb_law_cell_at) F sc_law_cell_at (by decide) hS_law_cell_at fun cdv A outer s G E g0 room => by
    have sc := sc_law_cell_at
    exact (ds_cons (ds_if (dt_lt (de_v 1) (de_len rfl bl.len (da_cons (de_v 0) da_nil))) (ds_one (ds_ret (de_ix (de_v 0) (de_v 1)))) ds_nil)
      (ds_one (ds_ret de_int)))

abbrev st_law_draw : Stmt := topS 61
abbrev N_law_draw : List Str := ["_law_pen_here", "_law_many", "_law_stir", "_law_digit"]
theorem sc_law_draw : FnScope N_law_draw ["_law_pen_here", "_law_many"] (defScope st_law_draw) := ⟨rfl, rfl, rfl, by decide +kernel, rfl, by decide +kernel, by decide +kernel⟩
theorem ok_law_draw {f : Addr} {fd : FuncData} (F : Fun K "_law_draw" "_law_draw" st_law_draw f fd) (bl : Bl mg) : FnG P w K mg base CX0 1 f fd ["_law_pen_here", "_law_many"] (spOf K S_law_draw) :=
  fnD (wb := wb_law_draw) F sc_law_draw (by decide) hS_law_draw fun cdv A outer s G E g0 room => by
    have sc := sc_law_draw
    exact (ds_cons (ds_if (dt_gt (de_ix (de_v 0) de_int) de_int) (ds_cons (ds_set 3 sc.nd (de_mod (de_ix (de_v 0) de_int) (de_v 1)))
      (ds_cons (ds_setI 0 de_int (de_fdiv (de_ix (de_v 0) de_int) (de_v 1)))
      (ds_one (ds_ret (de_v 3))))) ds_nil)
      (ds_cons (ds_setI 0 de_int (de_add (de_ix (de_v 0) de_int) de_int))
      (ds_cons (ds_set 2 sc.nd (de_mod (de_mul (de_add (de_ix (de_v 0) de_int) (de_mul de_int (de_ix (de_v 0) de_int))) (de_add de_int (de_mul de_int (de_ix (de_v 0) de_int)))) de_int))
      (ds_cons (ds_set 2 sc.nd (de_mod (de_add (de_add (de_mul (de_v 2) (de_v 2)) (de_mul de_int (de_ix (de_v 0) de_int))) de_int) de_int))
      (ds_one (ds_ret (de_mod (de_fdiv (de_mod (de_mul (de_v 2) de_int) de_int) de_int) (de_v 1))))))))

abbrev st_law_rule : Stmt := topS 62
abbrev N_law_rule : List Str := ["_law_pen_here", "_law_many", "_law_then", "_law_others", "_law_size", "_law_given", "_law_lap", "_law_column"]
theorem sc_law_rule : FnScope N_law_rule ["_law_pen_here", "_law_many"] (defScope st_law_rule) := ⟨rfl, rfl, rfl, by decide +kernel, rfl, by decide +kernel, by decide +kernel⟩
theorem ok_law_rule {f : Addr} {fd : FuncData} (F : Fun K "_law_rule" "_law_rule" st_law_rule f fd) (bl : Bl mg) (f_law_draw : Fn P w K mg base 1 "_law_draw" S_law_draw) : FnG P w K mg base CX0 2 f fd ["_law_pen_here", "_law_many"] (spOf K S_law_rule) :=
  fnD (wb := wb_law_rule) F sc_law_rule (by decide) hS_law_rule fun cdv A outer s G E g0 room => by
    have sc := sc_law_rule
    exact (ds_cons (ds_set 2 sc.nd (de_callOF 0 f_law_draw g0 (room.mono (by decide)) rfl (da_cons (de_v 1) da_nil)))
      (ds_cons (ds_setLc (own := [("_law_column", 7)]) 3 rfl sc.nd (di_range1 rfl bl.range (da_cons (de_v 1) da_nil)) (blkOk_by (N := N_law_rule) (sc := defScope st_law_rule) (own := [("_law_column", 7)]) (by decide +kernel)) (fun _ _ _ _ _ => (dg_name 7 sc.nd)) (fun _ _ _ _ _ => (dts_one (dt_ne room.units (de_v 7) (de_v 2)))) (fun _ _ _ _ _ => (de_v 7)))
      (ds_cons (ds_set 4 sc.nd (de_ix (de_lst (da_cons de_int (da_cons de_int (da_cons de_int (da_cons de_int (da_cons de_int (da_cons de_int (da_cons de_int da_nil)))))))) (de_callOF 0 f_law_draw g0 (room.mono (by decide)) rfl (da_cons de_int da_nil))))
      (ds_cons (ds_set 5 sc.nd (de_lst da_nil))
      (ds_cons (ds_for PassesOwn.never rfl (di_range1 rfl bl.range (da_cons (de_min2 rfl rfl bl.min (da_cons (de_v 4) (da_cons (de_len rfl bl.len (da_cons (de_v 3) da_nil)) da_nil))) da_nil)) (dg_name 6 sc.nd) (ds_one (ds_expr (de_append 5 (de_popAt 3 (de_callOF 0 f_law_draw g0 (room.mono (by decide)) rfl (da_cons (de_len rfl bl.len (da_cons (de_v 3) da_nil)) da_nil)))))))
      (ds_one (ds_ret (de_tup (da_cons (de_tuple rfl bl.tuple (da_cons (de_sorted rfl bl.sorted (da_cons (de_v 5) da_nil)) da_nil)) (da_cons (de_v 2) da_nil))))))))))

abbrev st_law_rules : Stmt := topS 63
abbrev N_law_rules : List Str := ["_law_pen_here", "_law_many", "_law_most", "_law_lap"]
theorem sc_law_rules : FnScope N_law_rules ["_law_pen_here", "_law_many", "_law_most"] (defScope st_law_rules) := ⟨rfl, rfl, rfl, by decide +kernel, rfl, by decide +kernel, by decide +kernel⟩
theorem ok_law_rules {f : Addr} {fd : FuncData} (F : Fun K "_law_rules" "_law_rules" st_law_rules f fd) (bl : Bl mg) (f_law_rule : Fn P w K mg base 2 "_law_rule" S_law_rule) (f_law_draw : Fn P w K mg base 1 "_law_draw" S_law_draw) : FnG P w K mg base CX0 3 f fd ["_law_pen_here", "_law_many", "_law_most"] (spOf K S_law_rules) :=
  fnD (wb := wb_law_rules) F sc_law_rules (by decide) hS_law_rules fun cdv A outer s G E g0 room => by
    have sc := sc_law_rules
    exact (ds_one (ds_ret (de_tuple rfl bl.tuple (da_cons (de_lc (own := [("_law_lap", 3)]) rfl sc.nd (di_range1 rfl bl.range (da_cons (de_callOF 0 f_law_draw g0 (room.mono (by decide)) rfl (da_cons (de_add (de_v 2) de_int) da_nil)) da_nil)) (blkOk_by (N := N_law_rules) (sc := defScope st_law_rules) (own := [("_law_lap", 3)]) (by decide +kernel)) (fun _ _ _ _ _ => (dg_name 3 sc.nd)) (fun _ _ _ _ _ => dts_nil) (fun _ _ _ _ _ => (de_callOF 0 f_law_rule g0 (room.mono (by decide)) rfl (da_cons (de_v 1) da_nil)))) da_nil))))

abbrev st_law_rows : Stmt := topS 64
abbrev N_law_rows : List Str := ["_law_pen_here", "_law_many", "_law_most", "_law_lap", "_law_kinds", "_law_share", "_law_values_here", "_law_found", "_law_cells", "_law_column"]
theorem sc_law_rows : FnScope N_law_rows ["_law_pen_here", "_law_many", "_law_most"] (defScope st_law_rows) := ⟨rfl, rfl, rfl, by decide +kernel, rfl, by decide +kernel, by decide +kernel⟩
theorem ok_law_rows {f : Addr} {fd : FuncData} (F : Fun K "_law_rows" "_law_rows" st_law_rows f fd) (bl : Bl mg) (f_law_draw : Fn P w K mg base 1 "_law_draw" S_law_draw) : FnG P w K mg base CX0 2 f fd ["_law_pen_here", "_law_many", "_law_most"] (spOf K S_law_rows) :=
  fnD (wb := wb_law_rows) F sc_law_rows (by decide) hS_law_rows fun cdv A outer s G E g0 room => by
    have sc := sc_law_rows
    exact (ds_cons (ds_par 4 5 rfl sc.nd (de_add de_int (de_callOF 0 f_law_draw g0 (room.mono (by decide)) rfl (da_cons de_int da_nil))) (de_callOF 0 f_law_draw g0 (room.mono (by decide)) rfl (da_cons de_int da_nil)))
      (ds_cons (ds_par 6 7 rfl sc.nd (de_ix (de_lst (da_cons (de_lst (da_cons de_int (da_cons de_int (da_cons de_int da_nil)))) (da_cons (de_lst (da_cons de_int (da_cons de_int (da_cons de_int da_nil)))) (da_cons (de_lst (da_cons de_int (da_cons de_int (da_cons de_int da_nil)))) (da_cons (de_lst (da_cons de_int (da_cons de_int (da_cons de_int da_nil)))) da_nil))))) (de_callOF 0 f_law_draw g0 (room.mono (by decide)) rfl (da_cons de_int da_nil))) (de_lst da_nil))
      (ds_cons (ds_for PassesOwn.never rfl (di_range1 rfl bl.range (da_cons (de_callOF 0 f_law_draw g0 (room.mono (by decide)) rfl (da_cons (de_add (de_v 2) de_int) da_nil)) da_nil)) (dg_name 3 sc.nd) (ds_cons (ds_set 8 sc.nd (de_lst da_nil))
      (ds_cons (ds_for PassesOwn.never rfl (di_range1 rfl bl.range (da_cons (de_v 1) da_nil)) (dg_name 9 sc.nd) (ds_one (ds_expr (de_append 8 (de_if (dt_lt (de_callOF 0 f_law_draw g0 (room.mono (by decide)) rfl (da_cons de_int da_nil)) (de_v 5)) de_non (de_ix (de_v 6) (de_callOF 0 f_law_draw g0 (room.mono (by decide)) rfl (da_cons (de_v 4) da_nil))))))))
      (ds_one (ds_expr (de_append 7 (de_tuple rfl bl.tuple (da_cons (de_v 8) da_nil))))))))
      (ds_one (ds_ret (de_tuple rfl bl.tuple (da_cons (de_v 7) da_nil)))))))

abbrev st_law_general : Stmt := topS 65
abbrev N_law_general : List Str := ["_law_many", "_law_rows_here", "_law_rules_here", "_law_groups", "_law_had", "_law_row", "_law_fresh", "_law_given", "_law_found", "_law_at", "_law_cells", "_law_column", "_law_own", "_law_value_here", "_law_key", "_law_cell"]
theorem sc_law_general : FnScope N_law_general ["_law_many", "_law_rows_here", "_law_rules_here"] (defScope st_law_general) := ⟨rfl, rfl, rfl, by decide +kernel, rfl, by decide +kernel, by decide +kernel⟩
theorem ok_law_general {f : Addr} {fd : FuncData} (F : Fun K "_law_general" "_law_general" st_law_general f fd) (bl : Bl mg) (f_law_joined : Fn P w K mg base 1 "_law_joined" S_law_joined) (f_law_is_clash : Fn P w K mg base 2 "_law_is_clash" S_law_is_clash) (f_law_values : Fn P w K mg base 1 "_law_values" S_law_values) : FnG P w K mg base CX0 3 f fd ["_law_many", "_law_rows_here", "_law_rules_here"] (spOf K S_law_general) :=
  fnD (wb := wb_law_general) F sc_law_general (by decide) hS_law_general fun cdv A outer s G E g0 room => by
    have sc := sc_law_general
    exact (ds_cons (ds_setD 3 sc.nd (de_callF f_law_joined g0 (room.mono (by decide)) rfl (da_cons (de_v 0) (da_cons (de_v 1) (da_cons (de_v 2) da_nil)))))
      (ds_cons (ds_if (dt_truth (de_callF f_law_is_clash g0 (room.mono (by decide)) rfl (da_cons (de_v 1) (da_cons (de_v 3) da_nil)))) (ds_one (ds_ret de_non)) ds_nil)
      (ds_cons (ds_set 4 sc.nd (de_lst da_nil))
      (ds_cons (ds_for PassesOwn.never rfl (di_seq (de_v 1)) (dg_name 5 sc.nd) (ds_one (ds_expr (de_extendL 4 (de_lc (own := [("_law_cell", 15)]) rfl sc.nd (di_seq (de_v 5)) (blkOk_by (N := N_law_general) (sc := defScope st_law_general) (own := [("_law_cell", 15)]) (by decide +kernel)) (fun _ _ _ _ _ => (dg_name 15 sc.nd)) (fun _ _ _ _ _ => (dts_one (dt_isnot (de_v 15) de_non))) (fun _ _ _ _ _ => (de_v 15)))))))
      (ds_cons (ds_tri 6 7 8 rfl sc.nd (de_lc (own := [("_law_value_here", 13)]) rfl sc.nd (di_range1 rfl bl.range (da_cons de_int da_nil)) (blkOk_by (N := N_law_general) (sc := defScope st_law_general) (own := [("_law_value_here", 13)]) (by decide +kernel)) (fun _ _ _ _ _ => (dg_name 13 sc.nd)) (fun _ _ _ _ _ => (dts_one (dt_notin (de_v 13) (de_v 4)))) (fun _ _ _ _ _ => (de_v 13))) (de_lst da_nil))
      (ds_cons (ds_for PassesOwn.never rfl (di_enum rfl bl.enumerate (da_cons (de_v 1) da_nil)) (dg_tup rfl (dgs_cons (dg_name 9 sc.nd) (dgs_cons (dg_name 5 sc.nd) dgs_nil))) (ds_cons (ds_set 10 sc.nd (de_list rfl bl.list (da_cons (de_v 5) da_nil)))
      (ds_cons (ds_for PassesOwn.never rfl (di_range1 rfl bl.range (da_cons (de_v 0) da_nil)) (dg_name 11 sc.nd) (ds_cons (ds_set 12 sc.nd (de_callF f_law_values g0 (room.mono (by decide)) rfl (da_cons (de_v 1) (da_cons (de_v 3) (da_cons (de_v 11) (da_cons (de_ix (de_ix (de_v 3) (de_v 11)) (de_v 9)) da_nil))))))
      (ds_cons (ds_if (dt_eq room.units (de_v 12) (de_lst da_nil)) (ds_cons (ds_setK 14 sc.nd (da_cons (de_v 11) (da_cons (de_ix (de_ix (de_v 3) (de_v 11)) (de_v 9)) da_nil)))
      (ds_cons (ds_if (dt_notinM 14 7 room.units) (ds_one (ds_putM 7 14 room.units (de_ix (de_v 6) (de_lenM 7 rfl bl.len)))) ds_nil)
      (ds_one (ds_set 12 sc.nd (de_lst (da_cons (de_getM 7 14 room.units) da_nil)))))) ds_nil)
      (ds_one (ds_setI 10 (de_v 11) (de_ix (de_v 12) de_int))))))
      (ds_one (ds_expr (de_append 8 (de_tuple rfl bl.tuple (da_cons (de_v 10) da_nil))))))))
      (ds_one (ds_ret (de_tuple rfl bl.tuple (da_cons (de_v 8) da_nil))))))))))

abbrev st_law_kind_rows : Stmt := topS 66
abbrev N_law_kind_rows : List Str := ["_law_pen_here", "_law_many", "_law_most", "_law_rules_here", "_law_rows_here", "_law_whole", "_law_share", "_law_found", "_law_row", "_law_cell"]
theorem sc_law_kind_rows : FnScope N_law_kind_rows ["_law_pen_here", "_law_many", "_law_most", "_law_rules_here"] (defScope st_law_kind_rows) := ⟨rfl, rfl, rfl, by decide +kernel, rfl, by decide +kernel, by decide +kernel⟩
theorem ok_law_kind_rows {f : Addr} {fd : FuncData} (F : Fun K "_law_kind_rows" "_law_kind_rows" st_law_kind_rows f fd) (bl : Bl mg) (f_law_rows : Fn P w K mg base 2 "_law_rows" S_law_rows) (f_law_general : Fn P w K mg base 3 "_law_general" S_law_general) (f_law_draw : Fn P w K mg base 1 "_law_draw" S_law_draw) : FnG P w K mg base CX0 4 f fd ["_law_pen_here", "_law_many", "_law_most", "_law_rules_here"] (spOf K S_law_kind_rows) :=
  fnD (wb := wb_law_kind_rows) F sc_law_kind_rows (by decide) hS_law_kind_rows fun cdv A outer s G E g0 room => by
    have sc := sc_law_kind_rows
    exact (ds_cons (ds_set 4 sc.nd (de_callOF 0 f_law_rows g0 (room.mono (by decide)) rfl (da_cons (de_v 1) (da_cons (de_v 2) da_nil))))
      (ds_cons (ds_set 5 sc.nd (de_callF f_law_general g0 (room.mono (by decide)) rfl (da_cons (de_v 1) (da_cons (de_v 4) (da_cons (de_v 3) da_nil)))))
      (ds_cons (ds_if (dt_w (dw_or (dt_is (de_v 5) de_non) (dw_or1 (dt_eq room.units (de_callOF 0 f_law_draw g0 (room.mono (by decide)) rfl (da_cons de_int da_nil)) de_int)))) (ds_one (ds_ret (de_v 4))) ds_nil)
      (ds_cons (ds_set 6 sc.nd (de_add de_int (de_callOF 0 f_law_draw g0 (room.mono (by decide)) rfl (da_cons de_int da_nil))))
      (ds_cons (ds_set 7 sc.nd (de_lst da_nil))
      (ds_cons (ds_for PassesOwn.never rfl (di_seq (de_v 5)) (dg_name 8 sc.nd) (ds_one (ds_expr (de_append 7 (de_tuple rfl bl.tuple (da_cons (de_lc (own := [("_law_cell", 9)]) rfl sc.nd (di_seq (de_v 8)) (blkOk_by (N := N_law_kind_rows) (sc := defScope st_law_kind_rows) (own := [("_law_cell", 9)]) (by decide +kernel)) (fun _ _ _ _ _ => (dg_name 9 sc.nd)) (fun _ _ _ _ _ => dts_nil) (fun _ _ _ _ _ => (de_if (dt_lt (de_callOF 0 f_law_draw g0 (room.mono (by decide)) rfl (da_cons de_int da_nil)) (de_v 6)) de_non (de_v 9)))) da_nil))))))
      (ds_one (ds_ret (de_tuple rfl bl.tuple (da_cons (de_v 7) da_nil))))))))))

abbrev st_law_with : Stmt := topS 67
abbrev N_law_with : List Str := ["_law_rows_here", "_law_at", "_law_column", "_law_cell", "_law_row"]
theorem sc_law_with : FnScope N_law_with ["_law_rows_here", "_law_at", "_law_column", "_law_cell"] (defScope st_law_with) := ⟨rfl, rfl, rfl, by decide +kernel, rfl, by decide +kernel, by decide +kernel⟩
theorem ok_law_with {f : Addr} {fd : FuncData} (F : Fun K "_law_with" "_law_with" st_law_with f fd) (bl : Bl mg) : FnG P w K mg base CX0 1 f fd ["_law_rows_here", "_law_at", "_law_column", "_law_cell"] (spOf K S_law_with) :=
  fnD (wb := wb_law_with) F sc_law_with (by decide) hS_law_with fun cdv A outer s G E g0 room => by
    have sc := sc_law_with
    exact (ds_cons (ds_set 4 sc.nd (de_catT (de_catT (de_slice (de_ix (de_v 0) (de_v 1)) do_none (do_some (de_v 2))) (de_tup (da_cons (de_v 3) da_nil))) (de_slice (de_ix (de_v 0) (de_v 1)) (do_some (de_add (de_v 2) de_int)) do_none)))
      (ds_one (ds_ret (de_catT (de_catT (de_slice (de_v 0) do_none (do_some (de_v 1))) (de_tup (da_cons (de_v 4) da_nil))) (de_slice (de_v 0) (do_some (de_add (de_v 1) de_int)) do_none)))))

abbrev st_law_value : Stmt := topS 68
abbrev N_law_value : List Str := ["_law_rows_here", "_law_groups", "_law_place", "_law_own"]
theorem sc_law_value : FnScope N_law_value ["_law_rows_here", "_law_groups", "_law_place"] (defScope st_law_value) := ⟨rfl, rfl, rfl, by decide +kernel, rfl, by decide +kernel, by decide +kernel⟩
theorem ok_law_value {f : Addr} {fd : FuncData} (F : Fun K "_law_value" "_law_value" st_law_value f fd) (bl : Bl mg) (f_law_values : Fn P w K mg base 1 "_law_values" S_law_values) : FnG P w K mg base CX0 2 f fd ["_law_rows_here", "_law_groups", "_law_place"] (spOf K S_law_value) :=
  fnD (wb := wb_law_value) F sc_law_value (by decide) hS_law_value fun cdv A outer s G E g0 room => by
    have sc := sc_law_value
    exact (ds_cons (ds_set 3 sc.nd (de_callF f_law_values g0 (room.mono (by decide)) rfl (da_cons (de_v 0) (da_cons (de_v 1) (da_cons (de_ix (de_v 2) de_int) (da_cons (de_ix (de_ix (de_v 1) (de_ix (de_v 2) de_int)) (de_ix (de_v 2) de_int)) da_nil))))))
      (ds_one (ds_ret (de_if (dt_ne room.units (de_v 3) (de_lst da_nil)) (de_ix (de_v 3) de_int) de_non))))

abbrev st_law_meets : Stmt := topS 69
abbrev N_law_meets : List Str := ["_law_many", "_law_rows_here", "_law_rules_here", "_law_place", "_law_other", "_law_groups", "_law_cell", "_law_some", "_law_one", "_law_value_here", "_law_its", "_law_both", "_law_row"]
theorem sc_law_meets : FnScope N_law_meets ["_law_many", "_law_rows_here", "_law_rules_here", "_law_place", "_law_other"] (defScope st_law_meets) := ⟨rfl, rfl, rfl, by decide +kernel, rfl, by decide +kernel, by decide +kernel⟩
theorem ok_law_meets {f : Addr} {fd : FuncData} (F : Fun K "_law_meets" "_law_meets" st_law_meets f fd) (bl : Bl mg) (f_law_joined : Fn P w K mg base 1 "_law_joined" S_law_joined) (f_law_value : Fn P w K mg base 2 "_law_value" S_law_value) (f_law_with : Fn P w K mg base 1 "_law_with" S_law_with) (f_law_has_filling : Fn P w K mg base 3 "_law_has_filling" S_law_has_filling) : FnG P w K mg base CX0 4 f fd ["_law_many", "_law_rows_here", "_law_rules_here", "_law_place", "_law_other"] (spOf K S_law_meets) :=
  fnD (wb := wb_law_meets) F sc_law_meets (by decide) hS_law_meets fun cdv A outer s G E g0 room => by
    have sc := sc_law_meets
    exact (ds_cons (ds_setD 5 sc.nd (de_callF f_law_joined g0 (room.mono (by decide)) rfl (da_cons (de_v 0) (da_cons (de_v 1) (da_cons (de_v 2) da_nil)))))
      (ds_cons (ds_par 9 10 rfl sc.nd (de_callF f_law_value g0 (room.mono (by decide)) rfl (da_cons (de_v 1) (da_cons (de_v 5) (da_cons (de_v 3) da_nil)))) (de_callF f_law_value g0 (room.mono (by decide)) rfl (da_cons (de_v 1) (da_cons (de_v 5) (da_cons (de_v 4) da_nil)))))
      (ds_cons (ds_if (dt_w (dw_and (dt_isnot (de_v 9) de_non) (dw_and1 (dt_isnot (de_v 10) de_non)))) (ds_one (ds_ret (de_eq room.units (de_v 9) (de_v 10)))) ds_nil)
      (ds_cons (ds_set 6 sc.nd (de_if (dt_isnot (de_v 9) de_non) (de_v 9) (de_v 10)))
      (ds_cons (ds_setD 7 sc.nd (de_lst (da_cons (de_v 6) da_nil)))
      (ds_cons (ds_if (dt_is (de_v 6) de_non) (ds_one (ds_setD 7 sc.nd (de_catL (de_lst (da_cons de_int da_nil)) (de_lc (own := [("_law_row", 12)]) rfl sc.nd (di_seq (de_v 1)) (blkOk_by (N := N_law_meets) (sc := defScope st_law_meets) (own := [("_law_row", 12)]) (by decide +kernel)) (fun _ _ _ _ _ => (dg_name 12 sc.nd)) (fun _ _ _ _ _ => (dts_one (dt_isnot (de_ix (de_v 12) (de_ix (de_v 3) de_int)) de_non))) (fun _ _ _ _ _ => (de_ix (de_v 12) (de_ix (de_v 3) de_int))))))) ds_nil)
      (ds_cons (ds_for PassesOwn.never rfl (di_seq (de_v 7)) (dg_name 8 sc.nd) (ds_cons (ds_set 11 sc.nd (de_callF f_law_with g0 (room.mono (by decide)) rfl (da_cons (de_callF f_law_with g0 (room.mono (by decide)) rfl (da_cons (de_v 1) (da_cons (de_ix (de_v 3) de_int) (da_cons (de_ix (de_v 3) de_int) (da_cons (de_v 8) da_nil))))) (da_cons (de_ix (de_v 4) de_int) (da_cons (de_ix (de_v 4) de_int) (da_cons (de_v 8) da_nil))))))
      (ds_one (ds_if (dt_truth (de_callF f_law_has_filling g0 (room.mono (by decide)) rfl (da_cons (de_v 0) (da_cons (de_v 11) (da_cons (de_v 2) da_nil))))) (ds_one (ds_ret de_bl)) ds_nil))))
      (ds_one (ds_ret de_bl)))))))))

abbrev st_law_due : Stmt := topS 70
abbrev N_law_due : List Str := ["_law_many", "_law_rows_here", "_law_rules_here", "_law_groups", "_law_place", "_law_other", "_law_value_here", "_law_its"]
theorem sc_law_due : FnScope N_law_due ["_law_many", "_law_rows_here", "_law_rules_here", "_law_groups", "_law_place", "_law_other"] (defScope st_law_due) := ⟨rfl, rfl, rfl, by decide +kernel, rfl, by decide +kernel, by decide +kernel⟩
theorem ok_law_due {f : Addr} {fd : FuncData} (F : Fun K "_law_due" "_law_due" st_law_due f fd) (bl : Bl mg) (f_law_value : Fn P w K mg base 2 "_law_value" S_law_value) (f_law_meets : Fn P w K mg base 4 "_law_meets" S_law_meets) : FnG P w K mg base CX0 5 f fd ["_law_many", "_law_rows_here", "_law_rules_here", "_law_groups", "_law_place", "_law_other"] (spOf K S_law_due) :=
  fnD (wb := wb_law_due) F sc_law_due (by decide) hS_law_due fun cdv A outer s G E g0 room => by
    have sc := sc_law_due
    exact (ds_cons (ds_if (dt_w (dw_and (dt_eq room.units (de_ix (de_v 4) de_int) (de_ix (de_v 5) de_int)) (dw_and1 (dt_eq room.units (de_ix (de_ix (de_v 3) (de_ix (de_v 4) de_int)) (de_ix (de_v 4) de_int)) (de_ix (de_ix (de_v 3) (de_ix (de_v 5) de_int)) (de_ix (de_v 5) de_int)))))) (ds_one (ds_ret de_str)) ds_nil)
      (ds_cons (ds_par 6 7 rfl sc.nd (de_callF f_law_value g0 (room.mono (by decide)) rfl (da_cons (de_v 1) (da_cons (de_v 3) (da_cons (de_v 4) da_nil)))) (de_callF f_law_value g0 (room.mono (by decide)) rfl (da_cons (de_v 1) (da_cons (de_v 3) (da_cons (de_v 5) da_nil)))))
      (ds_cons (ds_if (dt_w (dw_and (dt_isnot (de_v 6) de_non) (dw_and1 (dt_eq room.units (de_v 6) (de_v 7))))) (ds_one (ds_ret de_str)) ds_nil)
      (ds_one (ds_ret (de_if (dt_truth (de_callF f_law_meets g0 (room.mono (by decide)) rfl (da_cons (de_v 0) (da_cons (de_v 1) (da_cons (de_v 2) (da_cons (de_v 4) (da_cons (de_v 5) da_nil))))))) de_str de_str))))))

abbrev st_law_are_right : Stmt := topS 71
abbrev N_law_are_right : List Str := ["_law_pen_here", "_law_many", "_law_rows_here", "_law_rules_here", "_law_groups", "_law_places", "_law_at", "_law_place", "_law_other", "_law_turn", "_law_due_here", "_law_told", "_law_column"]
theorem sc_law_are_right : FnScope N_law_are_right ["_law_pen_here", "_law_many", "_law_rows_here", "_law_rules_here"] (defScope st_law_are_right) := ⟨rfl, rfl, rfl, by decide +kernel, rfl, by decide +kernel, by decide +kernel⟩
theorem ok_law_are_right {f : Addr} {fd : FuncData} (F : Fun K "_law_are_right" "_law_are_right" st_law_are_right f fd) (bl : Bl mg) (f_law_joined : Fn P w K mg base 1 "_law_joined" S_law_joined) (f_law_draw : Fn P w K mg base 1 "_law_draw" S_law_draw) (f_law_due : Fn P w K mg base 5 "_law_due" S_law_due) (f_relation : Fn P w K mg base 9 "relation" S_relation) (f_law_same : Fn P w K mg base 1 "_law_same" S_law_same) : FnG P w K mg base CX0 10 f fd ["_law_pen_here", "_law_many", "_law_rows_here", "_law_rules_here"] (spOf K S_law_are_right) :=
  fnD (wb := wb_law_are_right) F sc_law_are_right (by decide) hS_law_are_right fun cdv A outer s G E g0 room => by
    have sc := sc_law_are_right
    exact (ds_cons (ds_setD 4 sc.nd (de_callF f_law_joined g0 (room.mono (by decide)) rfl (da_cons (de_v 1) (da_cons (de_v 2) (da_cons (de_v 3) da_nil)))))
      (ds_cons (ds_set 5 sc.nd (de_lst da_nil))
      (ds_cons (ds_for PassesOwn.never rfl (di_range1 rfl bl.range (da_cons (de_len rfl bl.len (da_cons (de_v 2) da_nil)) da_nil)) (dg_name 6 sc.nd) (ds_one (ds_expr (de_extendL 5 (de_lc (own := [("_law_column", 12)]) rfl sc.nd (di_range1 rfl bl.range (da_cons (de_v 1) da_nil)) (blkOk_by (N := N_law_are_right) (sc := defScope st_law_are_right) (own := [("_law_column", 12)]) (by decide +kernel)) (fun _ _ _ _ _ => (dg_name 12 sc.nd)) (fun _ _ _ _ _ => dts_nil) (fun _ _ _ _ _ => (de_tup (da_cons (de_v 6) (da_cons (de_v 12) da_nil)))))))))
      (ds_cons (ds_for PassesOwn.never rfl (di_seq (de_lc (own := [("_law_turn", 9)]) rfl sc.nd (di_range1 rfl bl.range (da_cons (de_min2 rfl rfl bl.min (da_cons de_int (da_cons (de_len rfl bl.len (da_cons (de_v 5) da_nil)) da_nil))) da_nil)) (blkOk_by (N := N_law_are_right) (sc := defScope st_law_are_right) (own := [("_law_turn", 9)]) (by decide +kernel)) (fun _ _ _ _ _ => (dg_name 9 sc.nd)) (fun _ _ _ _ _ => dts_nil) (fun _ _ _ _ _ => (de_ix (de_v 5) (de_callOF 0 f_law_draw g0 (room.mono (by decide)) rfl (da_cons (de_len rfl bl.len (da_cons (de_v 5) da_nil)) da_nil)))))) (dg_name 7 sc.nd) (ds_one (ds_for PassesOwn.never rfl (di_seq (de_catL (de_lst (da_cons (de_v 7) da_nil)) (de_lc (own := [("_law_turn", 9)]) rfl sc.nd (di_range1 rfl bl.range (da_cons de_int da_nil)) (blkOk_by (N := N_law_are_right) (sc := defScope st_law_are_right) (own := [("_law_turn", 9)]) (by decide +kernel)) (fun _ _ _ _ _ => (dg_name 9 sc.nd)) (fun _ _ _ _ _ => dts_nil) (fun _ _ _ _ _ => (de_ix (de_v 5) (de_callOF 0 f_law_draw g0 (room.mono (by decide)) rfl (da_cons (de_len rfl bl.len (da_cons (de_v 5) da_nil)) da_nil))))))) (dg_name 8 sc.nd) (ds_cons (ds_set 10 sc.nd (de_callF f_law_due g0 (room.mono (by decide)) rfl (da_cons (de_v 1) (da_cons (de_v 2) (da_cons (de_v 3) (da_cons (de_v 4) (da_cons (de_v 7) (da_cons (de_v 8) da_nil))))))))
      (ds_cons (ds_setD 11 sc.nd (de_lst (da_cons (de_callF f_relation g0 (room.mono (by decide)) rfl (da_cons (de_tup (da_cons (de_v 1) (da_cons (de_v 2) da_nil))) (da_cons (de_v 3) (da_cons (de_v 7) (da_cons (de_v 8) da_nil))))) (da_cons (de_callF f_relation g0 (room.mono (by decide)) rfl (da_cons (de_tup (da_cons (de_v 1) (da_cons (de_v 2) da_nil))) (da_cons (de_v 3) (da_cons (de_v 8) (da_cons (de_v 7) da_nil))))) da_nil))))
      (ds_one (ds_if (dt_not (dt_truth (de_callF f_law_same g0 (room.mono (by decide)) rfl (da_cons (de_v 11) (da_cons (de_lst (da_cons (de_v 10) (da_cons (de_v 10) da_nil))) da_nil))))) (ds_one (ds_ret de_bl)) ds_nil)))))))
      (ds_one (ds_ret de_bl))))))

abbrev st_law : Stmt := topS 72
abbrev N_law : List Str := ["_law_script", "_law_k", "_law_pen_here", "_law_lap", "_law_rules_here", "_law_rows_here", "_law_many"]
theorem sc_law : FnScope N_law ["_law_script"] (defScope st_law) := ⟨rfl, rfl, rfl, by decide +kernel, rfl, by decide +kernel, by decide +kernel⟩
theorem ok_law {f : Addr} {fd : FuncData} (F : Fun K "law" "law" st_law f fd) (bl : Bl mg) (f_law_pen : Fn P w K mg base 1 "_law_pen" S_law_pen) (f_law_rules : Fn P w K mg base 3 "_law_rules" S_law_rules) (f_law_cell_at : Fn P w K mg base 1 "_law_cell_at" S_law_cell_at) (f_law_kind_rows : Fn P w K mg base 4 "_law_kind_rows" S_law_kind_rows) (f_law_has_filling : Fn P w K mg base 3 "_law_has_filling" S_law_has_filling) (f_law_draw : Fn P w K mg base 1 "_law_draw" S_law_draw) (f_law_are_right : Fn P w K mg base 10 "_law_are_right" S_law_are_right) : FnG P w K mg base CX0 11 f fd ["_law_script"] (spOf K S_law) :=
  fnD (wb := wb_law) F sc_law (by decide) hS_law fun cdv A outer s G E g0 room => by
    have sc := sc_law
    exact (ds_cons (ds_for PassesOwn.never rfl (di_range1 rfl bl.range (da_cons (de_max2 rfl rfl bl.max (da_cons de_int (da_cons (de_min2 rfl rfl bl.min (da_cons (de_len rfl bl.len (da_cons (de_v 0) da_nil)) (da_cons de_int da_nil))) da_nil))) da_nil)) (dg_name 1 sc.nd) (ds_cons (ds_set 2 sc.nd (de_callF f_law_pen g0 (room.mono (by decide)) rfl (da_cons (de_callF f_law_cell_at g0 (room.mono (by decide)) rfl (da_cons (de_v 0) (da_cons (de_v 1) da_nil))) da_nil)))
      (ds_cons (ds_for PassesOwn.never rfl (di_range1 rfl bl.range (da_cons de_int da_nil)) (dg_name 3 sc.nd) (ds_cons (ds_set 6 sc.nd (de_add de_int (de_callOF 2 f_law_draw g0 (room.mono (by decide)) rfl (da_cons de_int da_nil))))
      (ds_cons (ds_set 4 sc.nd (de_callOF 2 f_law_rules g0 (room.mono (by decide)) rfl (da_cons (de_v 6) (da_cons de_int da_nil))))
      (ds_cons (ds_set 5 sc.nd (de_callOF 2 f_law_kind_rows g0 (room.mono (by decide)) rfl (da_cons (de_v 6) (da_cons de_int (da_cons (de_v 4) da_nil)))))
      (ds_one (ds_if (dt_w (dw_and (dt_truth (de_callF f_law_has_filling g0 (room.mono (by decide)) rfl (da_cons (de_v 6) (da_cons (de_v 5) (da_cons (de_v 4) da_nil))))) (dw_and1 (dt_not (dt_truth (de_callOF 2 f_law_are_right g0 (room.mono (by decide)) rfl (da_cons (de_v 6) (da_cons (de_v 5) (da_cons (de_v 4) da_nil))))))))) (ds_one (ds_ret de_bl)) ds_nil))))))
      (ds_cons (ds_set 4 sc.nd (de_callOF 2 f_law_rules g0 (room.mono (by decide)) rfl (da_cons de_int (da_cons de_int da_nil))))
      (ds_cons (ds_set 5 sc.nd (de_slice (de_callOF 2 f_law_kind_rows g0 (room.mono (by decide)) rfl (da_cons de_int (da_cons de_int (da_cons (de_v 4) da_nil)))) do_none (do_some de_int)))
      (ds_one (ds_if (dt_w (dw_and (dt_truth (de_callF f_law_has_filling g0 (room.mono (by decide)) rfl (da_cons de_int (da_cons (de_v 5) (da_cons (de_v 4) da_nil))))) (dw_and1 (dt_not (dt_truth (de_callOF 2 f_law_are_right g0 (room.mono (by decide)) rfl (da_cons de_int (da_cons (de_v 5) (da_cons (de_v 4) da_nil))))))))) (ds_one (ds_ret de_bl)) ds_nil)))))))
      (ds_one (ds_ret de_bl)))

end
theorem all_mk {P : Program} {w : World} {K : PySem.W.Frag} {h : Heap} {mg : Str → Option Value} {fa : Addr} {t_MOST_COLUMNS : Tok} {t_HIGHEST_VALUE : Tok} {t_MOST_ROWS : Tok} {t_MOST_RULES : Tok} (X : K.In h) (G : h.Ns mainGlobals mg) (hfa : mg "law" = some (.ref fa))
    (z_len : PySem.W.nsIn K mainGlobals "len" = some none)
    (z_range : PySem.W.nsIn K mainGlobals "range" = some none)
    (z_tuple : PySem.W.nsIn K mainGlobals "tuple" = some none)
    (z_list : PySem.W.nsIn K mainGlobals "list" = some none)
    (z_max : PySem.W.nsIn K mainGlobals "max" = some none)
    (z_min : PySem.W.nsIn K mainGlobals "min" = some none)
    (z_all : PySem.W.nsIn K mainGlobals "all" = some none)
    (z_any : PySem.W.nsIn K mainGlobals "any" = some none)
    (z_sorted : PySem.W.nsIn K mainGlobals "sorted" = some none)
    (z_repr : PySem.W.nsIn K mainGlobals "repr" = some none)
    (z_isinstance : PySem.W.nsIn K mainGlobals "isinstance" = some none)
    (z_int : PySem.W.nsIn K mainGlobals "int" = some none)
    (z_bool : PySem.W.nsIn K mainGlobals "bool" = some none)
    (z_str : PySem.W.nsIn K mainGlobals "str" = some none)
    (z_enumerate : PySem.W.nsIn K mainGlobals "enumerate" = some none)
    (z_zip : PySem.W.nsIn K mainGlobals "zip" = some none)
    (z_set : PySem.W.nsIn K mainGlobals "set" = some none)
    (z_dict : PySem.W.nsIn K mainGlobals "dict" = some none)
    (k_MOST_COLUMNS : PySem.W.nsIn K mainGlobals "MOST_COLUMNS" = some (some (.int 5 t_MOST_COLUMNS)))
    (k_HIGHEST_VALUE : PySem.W.nsIn K mainGlobals "HIGHEST_VALUE" = some (some (.int 9999 t_HIGHEST_VALUE)))
    (k_MOST_ROWS : PySem.W.nsIn K mainGlobals "MOST_ROWS" = some (some (.int 8 t_MOST_ROWS)))
    (k_MOST_RULES : PySem.W.nsIn K mainGlobals "MOST_RULES" = some (some (.int 8 t_MOST_RULES)))
    (d_is_number : DefIn K "is_number" st_is_number)
    (d_is_number_set : DefIn K "is_number_set" st_is_number_set)
    (d_is_many : DefIn K "is_many" st_is_many)
    (d_is_column : DefIn K "is_column" st_is_column)
    (d_is_cell : DefIn K "is_cell" st_is_cell)
    (d_is_row : DefIn K "is_row" st_is_row)
    (d_are_rows : DefIn K "are_rows" st_are_rows)
    (d_is_table : DefIn K "is_table" st_is_table)
    (d_is_place : DefIn K "is_place" st_is_place)
    (d_are_columns : DefIn K "are_columns" st_are_columns)
    (d_is_rule : DefIn K "is_rule" st_is_rule)
    (d_are_rules : DefIn K "are_rules" st_are_rules)
    (d_need_table : DefIn K "need_table" st_need_table)
    (d_need_many : DefIn K "need_many" st_need_many)
    (d_need_rules : DefIn K "need_rules" st_need_rules)
    (d_need_place : DefIn K "need_place" st_need_place)
    (d_with_cells : DefIn K "with_cells" st_with_cells)
    (d_keeps_values : DefIn K "keeps_values" st_keeps_values)
    (d_row_pairs : DefIn K "row_pairs" st_row_pairs)
    (d_value_marks : DefIn K "value_marks" st_value_marks)
    (d_column_marks : DefIn K "column_marks" st_column_marks)
    (d_are_joined : DefIn K "are_joined" st_are_joined)
    (d_join_cells : DefIn K "join_cells" st_join_cells)
    (d_is_possible : DefIn K "is_possible" st_is_possible)
    (d_take_step : DefIn K "take_step" st_take_step)
    (d_take_rule_steps : DefIn K "take_rule_steps" st_take_rule_steps)
    (d_take_all_steps : DefIn K "take_all_steps" st_take_all_steps)
    (d_joined_marks : DefIn K "joined_marks" st_joined_marks)
    (d_lot_values : DefIn K "lot_values" st_lot_values)
    (d_known_rows : DefIn K "known_rows" st_known_rows)
    (d_has_clash : DefIn K "has_clash" st_has_clash)
    (d_has_filling : DefIn K "has_filling" st_has_filling)
    (d_filling_marks : DefIn K "filling_marks" st_filling_marks)
    (d_with_value : DefIn K "with_value" st_with_value)
    (d_can_be : DefIn K "can_be" st_can_be)
    (d_column_relation : DefIn K "column_relation" st_column_relation)
    (d_known_relation : DefIn K "known_relation" st_known_relation)
    (d_relation : DefIn K "relation" st_relation)
    (d_law_values : DefIn K "_law_values" st_law_values)
    (d_law_joined : DefIn K "_law_joined" st_law_joined)
    (d_law_is_clash : DefIn K "_law_is_clash" st_law_is_clash)
    (d_law_has_filling : DefIn K "_law_has_filling" st_law_has_filling)
    (d_law_same : DefIn K "_law_same" st_law_same)
    (d_law_pen : DefIn K "_law_pen" st_law_pen)
    (d_law_cell_at : DefIn K "_law_cell_at" st_law_cell_at)
    (d_law_draw : DefIn K "_law_draw" st_law_draw)
    (d_law_rule : DefIn K "_law_rule" st_law_rule)
    (d_law_rules : DefIn K "_law_rules" st_law_rules)
    (d_law_rows : DefIn K "_law_rows" st_law_rows)
    (d_law_general : DefIn K "_law_general" st_law_general)
    (d_law_kind_rows : DefIn K "_law_kind_rows" st_law_kind_rows)
    (d_law_with : DefIn K "_law_with" st_law_with)
    (d_law_value : DefIn K "_law_value" st_law_value)
    (d_law_meets : DefIn K "_law_meets" st_law_meets)
    (d_law_due : DefIn K "_law_due" st_law_due)
    (d_law_are_right : DefIn K "_law_are_right" st_law_are_right)
    (d_law : DefIn K "law" st_law)
    : ∃ fd : FuncData, (∀ (s : Shared) (u : Value), BindsTo s fd ⟨[u], []⟩ [("_law_script", u)]) ∧ ∀ base : Heap, K.In base → base.Ns mainGlobals mg → FnG P w K mg base CX0 11 fa fd ["_law_script"] (spOf K S_law) := by
  have bl : Bl mg := ⟨PySem.W.mg_none_of X G z_len, PySem.W.mg_none_of X G z_range, PySem.W.mg_none_of X G z_tuple, PySem.W.mg_none_of X G z_list, PySem.W.mg_none_of X G z_max, PySem.W.mg_none_of X G z_min, PySem.W.mg_none_of X G z_all, PySem.W.mg_none_of X G z_any, PySem.W.mg_none_of X G z_sorted, PySem.W.mg_none_of X G z_repr, PySem.W.mg_none_of X G z_isinstance, PySem.W.mg_none_of X G z_int, PySem.W.mg_none_of X G z_bool, PySem.W.mg_none_of X G z_str, PySem.W.mg_none_of X G z_enumerate, PySem.W.mg_none_of X G z_zip, PySem.W.mg_none_of X G z_set, PySem.W.mg_none_of X G z_dict⟩
  obtain ⟨f, oc, od, kV, dc, pm, an, cd, ct, sl, a, l, c, kp⟩ := d_law
  have e := hfa.symm.trans (PySem.W.mg_of X G a)
  cases e
  refine ⟨PySem.W.fnOf "law" "law" (defArgs st_law) (defBody st_law) (defScope st_law) .none kV dc pm an cd ct, fun s v => .of_eq rfl, fun base _ _ => ?_⟩
  have f_is_number : Fn P w K mg base 1 "is_number" S_is_number := fn_in X G d_is_number (fun _ _ _ _ _ _ us hl => match us, hl with | [_, _, _], _ => rfl) fun F => ok_is_number F bl
  have f_with_cells : Fn P w K mg base 1 "with_cells" S_with_cells := fn_in X G d_with_cells (fun _ _ _ _ _ _ us hl => match us, hl with | [_, _], _ => rfl) fun F => ok_with_cells F bl
  have f_keeps_values : Fn P w K mg base 1 "keeps_values" S_keeps_values := fn_in X G d_keeps_values (fun _ _ _ _ _ _ us hl => match us, hl with | [_, _], _ => rfl) fun F => ok_keeps_values F bl
  have f_row_pairs : Fn P w K mg base 1 "row_pairs" S_row_pairs := fn_in X G d_row_pairs (fun _ _ _ _ _ _ us hl => match us, hl with | [_], _ => rfl) fun F => ok_row_pairs F bl
  have f_column_marks : Fn P w K mg base 1 "column_marks" S_column_marks := fn_in X G d_column_marks (fun _ _ _ _ _ _ us hl => match us, hl with | [_], _ => rfl) fun F => ok_column_marks F bl
  have f_are_joined : Fn P w K mg base 1 "are_joined" S_are_joined := fn_in X G d_are_joined (fun _ _ _ _ _ _ us hl => match us, hl with | [_, _, _, _], _ => rfl) fun F => ok_are_joined F bl
  have f_join_cells : Fn P w K mg base 1 "join_cells" S_join_cells := fn_in X G d_join_cells (fun _ _ _ _ _ _ us hl => match us, hl with | [_, _, _, _], _ => rfl) fun F => ok_join_cells F bl
  have f_lot_values : Fn P w K mg base 1 "lot_values" S_lot_values := fn_in X G d_lot_values (fun _ _ _ _ _ _ us hl => match us, hl with | [_, _], _ => rfl) fun F => ok_lot_values F bl
  have f_law_values : Fn P w K mg base 1 "_law_values" S_law_values := fn_in X G d_law_values (fun _ _ _ _ _ _ us hl => match us, hl with | [_, _, _, _], _ => rfl) fun F => ok_law_values F bl
  have f_law_joined : Fn P w K mg base 1 "_law_joined" S_law_joined := fn_in X G d_law_joined (fun _ _ _ _ _ _ us hl => match us, hl with | [_, _, _], _ => rfl) fun F => ok_law_joined F bl
  have f_law_same : Fn P w K mg base 1 "_law_same" S_law_same := fn_in X G d_law_same (fun _ _ _ _ _ _ us hl => match us, hl with | [_, _], _ => rfl) fun F => ok_law_same F bl
  have f_law_pen : Fn P w K mg base 1 "_law_pen" S_law_pen := fn_in X G d_law_pen (fun _ _ _ _ _ _ us hl => match us, hl with | [_], _ => rfl) fun F => ok_law_pen F bl
  have f_law_cell_at : Fn P w K mg base 1 "_law_cell_at" S_law_cell_at := fn_in X G d_law_cell_at (fun _ _ _ _ _ _ us hl => match us, hl with | [_, _], _ => rfl) fun F => ok_law_cell_at F bl
  have f_law_draw : Fn P w K mg base 1 "_law_draw" S_law_draw := fn_in X G d_law_draw (fun _ _ _ _ _ _ us hl => match us, hl with | [_, _], _ => rfl) fun F => ok_law_draw F bl
  have f_law_with : Fn P w K mg base 1 "_law_with" S_law_with := fn_in X G d_law_with (fun _ _ _ _ _ _ us hl => match us, hl with | [_, _, _, _], _ => rfl) fun F => ok_law_with F bl
  have f_is_number_set : Fn P w K mg base 2 "is_number_set" S_is_number_set := fn_in X G d_is_number_set (fun _ _ _ _ _ _ us hl => match us, hl with | [_, _, _], _ => rfl) fun F => ok_is_number_set F bl f_is_number
  have f_is_many : Fn P w K mg base 2 "is_many" S_is_many := fn_in X G d_is_many (fun _ _ _ _ _ _ us hl => match us, hl with | [_], _ => rfl) fun F => ok_is_many F bl (PySem.W.mg_of X G k_MOST_COLUMNS) f_is_number
  have f_is_column : Fn P w K mg base 2 "is_column" S_is_column := fn_in X G d_is_column (fun _ _ _ _ _ _ us hl => match us, hl with | [_, _], _ => rfl) fun F => ok_is_column F bl f_is_number
  have f_is_cell : Fn P w K mg base 2 "is_cell" S_is_cell := fn_in X G d_is_cell (fun _ _ _ _ _ _ us hl => match us, hl with | [_], _ => rfl) fun F => ok_is_cell F bl (PySem.W.mg_of X G k_HIGHEST_VALUE) f_is_number
  have f_value_marks : Fn P w K mg base 2 "value_marks" S_value_marks := fn_in X G d_value_marks (fun _ _ _ _ _ _ us hl => match us, hl with | [_], _ => rfl) fun F => ok_value_marks F bl f_column_marks
  have f_is_possible : Fn P w K mg base 2 "is_possible" S_is_possible := fn_in X G d_is_possible (fun _ _ _ _ _ _ us hl => match us, hl with | [_, _, _], _ => rfl) fun F => ok_is_possible F bl f_are_joined
  have f_take_step : Fn P w K mg base 2 "take_step" S_take_step := fn_in X G d_take_step (fun _ _ _ _ _ _ us hl => match us, hl with | [_, _, _], _ => rfl) fun F => ok_take_step F bl f_join_cells
  have f_known_rows : Fn P w K mg base 2 "known_rows" S_known_rows := fn_in X G d_known_rows (fun _ _ _ _ _ _ us hl => match us, hl with | [_, _], _ => rfl) fun F => ok_known_rows F bl f_lot_values
  have f_with_value : Fn P w K mg base 2 "with_value" S_with_value := fn_in X G d_with_value (fun _ _ _ _ _ _ us hl => match us, hl with | [_, _, _], _ => rfl) fun F => ok_with_value F bl f_with_cells
  have f_law_is_clash : Fn P w K mg base 2 "_law_is_clash" S_law_is_clash := fn_in X G d_law_is_clash (fun _ _ _ _ _ _ us hl => match us, hl with | [_, _], _ => rfl) fun F => ok_law_is_clash F bl f_law_values
  have f_law_rule : Fn P w K mg base 2 "_law_rule" S_law_rule := fn_in X G d_law_rule (fun _ _ _ _ _ _ us hl => match us, hl with | [_, _], _ => rfl) fun F => ok_law_rule F bl f_law_draw
  have f_law_rows : Fn P w K mg base 2 "_law_rows" S_law_rows := fn_in X G d_law_rows (fun _ _ _ _ _ _ us hl => match us, hl with | [_, _, _], _ => rfl) fun F => ok_law_rows F bl f_law_draw
  have f_law_value : Fn P w K mg base 2 "_law_value" S_law_value := fn_in X G d_law_value (fun _ _ _ _ _ _ us hl => match us, hl with | [_, _, _], _ => rfl) fun F => ok_law_value F bl f_law_values
  have f_is_row : Fn P w K mg base 3 "is_row" S_is_row := fn_in X G d_is_row (fun _ _ _ _ _ _ us hl => match us, hl with | [_, _], _ => rfl) fun F => ok_is_row F bl f_is_cell
  have f_is_place : Fn P w K mg base 3 "is_place" S_is_place := fn_in X G d_is_place (fun _ _ _ _ _ _ us hl => match us, hl with | [_, _], _ => rfl) fun F => ok_is_place F bl f_is_number f_is_column
  have f_are_columns : Fn P w K mg base 3 "are_columns" S_are_columns := fn_in X G d_are_columns (fun _ _ _ _ _ _ us hl => match us, hl with | [_, _], _ => rfl) fun F => ok_are_columns F bl f_is_number_set
  have f_need_many : Fn P w K mg base 3 "need_many" S_need_many := fn_in X G d_need_many (fun _ _ _ _ _ _ us hl => match us, hl with | [_], _ => rfl) fun F => ok_need_many F bl f_is_many
  have f_take_rule_steps : Fn P w K mg base 3 "take_rule_steps" S_take_rule_steps := fn_in X G d_take_rule_steps (fun _ _ _ _ _ _ us hl => match us, hl with | [_, _, _, _], _ => rfl) fun F => ok_take_rule_steps F bl f_row_pairs f_is_possible f_take_step f_are_joined
  have f_has_clash : Fn P w K mg base 3 "has_clash" S_has_clash := fn_in X G d_has_clash (fun _ _ _ _ _ _ us hl => match us, hl with | [_, _], _ => rfl) fun F => ok_has_clash F bl f_keeps_values f_known_rows
  have f_law_has_filling : Fn P w K mg base 3 "_law_has_filling" S_law_has_filling := fn_in X G d_law_has_filling (fun _ _ _ _ _ _ us hl => match us, hl with | [_, _, _], _ => rfl) fun F => ok_law_has_filling F bl f_law_is_clash f_law_joined
  have f_law_rules : Fn P w K mg base 3 "_law_rules" S_law_rules := fn_in X G d_law_rules (fun _ _ _ _ _ _ us hl => match us, hl with | [_, _, _], _ => rfl) fun F => ok_law_rules F bl f_law_rule f_law_draw
  have f_law_general : Fn P w K mg base 3 "_law_general" S_law_general := fn_in X G d_law_general (fun _ _ _ _ _ _ us hl => match us, hl with | [_, _, _], _ => rfl) fun F => ok_law_general F bl f_law_joined f_law_is_clash f_law_values
  have f_are_rows : Fn P w K mg base 4 "are_rows" S_are_rows := fn_in X G d_are_rows (fun _ _ _ _ _ _ us hl => match us, hl with | [_, _], _ => rfl) fun F => ok_are_rows F bl (PySem.W.mg_of X G k_MOST_ROWS) f_is_row
  have f_is_rule : Fn P w K mg base 4 "is_rule" S_is_rule := fn_in X G d_is_rule (fun _ _ _ _ _ _ us hl => match us, hl with | [_, _], _ => rfl) fun F => ok_is_rule F bl f_are_columns f_is_column
  have f_need_place : Fn P w K mg base 4 "need_place" S_need_place := fn_in X G d_need_place (fun _ _ _ _ _ _ us hl => match us, hl with | [_, _], _ => rfl) fun F => ok_need_place F bl f_is_place
  have f_take_all_steps : Fn P w K mg base 4 "take_all_steps" S_take_all_steps := fn_in X G d_take_all_steps (fun _ _ _ _ _ _ us hl => match us, hl with | [_, _, _], _ => rfl) fun F => ok_take_all_steps F bl f_take_rule_steps
  have f_law_kind_rows : Fn P w K mg base 4 "_law_kind_rows" S_law_kind_rows := fn_in X G d_law_kind_rows (fun _ _ _ _ _ _ us hl => match us, hl with | [_, _, _, _], _ => rfl) fun F => ok_law_kind_rows F bl f_law_rows f_law_general f_law_draw
  have f_law_meets : Fn P w K mg base 4 "_law_meets" S_law_meets := fn_in X G d_law_meets (fun _ _ _ _ _ _ us hl => match us, hl with | [_, _, _, _, _], _ => rfl) fun F => ok_law_meets F bl f_law_joined f_law_value f_law_with f_law_has_filling
  have f_is_table : Fn P w K mg base 5 "is_table" S_is_table := fn_in X G d_is_table (fun _ _ _ _ _ _ us hl => match us, hl with | [_], _ => rfl) fun F => ok_is_table F bl f_is_many f_are_rows
  have f_are_rules : Fn P w K mg base 5 "are_rules" S_are_rules := fn_in X G d_are_rules (fun _ _ _ _ _ _ us hl => match us, hl with | [_, _], _ => rfl) fun F => ok_are_rules F bl (PySem.W.mg_of X G k_MOST_RULES) f_need_many f_is_rule
  have f_joined_marks : Fn P w K mg base 5 "joined_marks" S_joined_marks := fn_in X G d_joined_marks (fun _ _ _ _ _ _ us hl => match us, hl with | [_, _], _ => rfl) fun F => ok_joined_marks F bl f_value_marks f_take_all_steps
  have f_column_relation : Fn P w K mg base 5 "column_relation" S_column_relation := fn_in X G d_column_relation (fun _ _ _ _ _ _ us hl => match us, hl with | [_, _, _, _, _], _ => rfl) fun F => ok_column_relation F bl f_are_joined f_join_cells f_take_all_steps f_has_clash
  have f_law_due : Fn P w K mg base 5 "_law_due" S_law_due := fn_in X G d_law_due (fun _ _ _ _ _ _ us hl => match us, hl with | [_, _, _, _, _, _], _ => rfl) fun F => ok_law_due F bl f_law_value f_law_meets
  have f_need_table : Fn P w K mg base 6 "need_table" S_need_table := fn_in X G d_need_table (fun _ _ _ _ _ _ us hl => match us, hl with | [_], _ => rfl) fun F => ok_need_table F bl f_is_table
  have f_need_rules : Fn P w K mg base 6 "need_rules" S_need_rules := fn_in X G d_need_rules (fun _ _ _ _ _ _ us hl => match us, hl with | [_, _], _ => rfl) fun F => ok_need_rules F bl f_are_rules
  have f_has_filling : Fn P w K mg base 6 "has_filling" S_has_filling := fn_in X G d_has_filling (fun _ _ _ _ _ _ us hl => match us, hl with | [_, _], _ => rfl) fun F => ok_has_filling F bl f_has_clash f_joined_marks
  have f_filling_marks : Fn P w K mg base 6 "filling_marks" S_filling_marks := fn_in X G d_filling_marks (fun _ _ _ _ _ _ us hl => match us, hl with | [_, _], _ => rfl) fun F => ok_filling_marks F bl f_joined_marks f_has_clash
  have f_can_be : Fn P w K mg base 7 "can_be" S_can_be := fn_in X G d_can_be (fun _ _ _ _ _ _ us hl => match us, hl with | [_, _, _, _], _ => rfl) fun F => ok_can_be F bl f_with_value f_has_filling
  have f_known_relation : Fn P w K mg base 8 "known_relation" S_known_relation := fn_in X G d_known_relation (fun _ _ _ _ _ _ us hl => match us, hl with | [_, _, _, _], _ => rfl) fun F => ok_known_relation F bl f_can_be
  have f_relation : Fn P w K mg base 9 "relation" S_relation := fn_in X G d_relation (fun _ _ _ _ _ _ us hl => match us, hl with | [_, _, _, _], _ => rfl) fun F => ok_relation F bl f_need_table f_need_rules f_need_place f_filling_marks f_known_rows f_column_relation f_known_relation
  have f_law_are_right : Fn P w K mg base 10 "_law_are_right" S_law_are_right := fn_in X G d_law_are_right (fun _ _ _ _ _ _ us hl => match us, hl with | [_, _, _, _], _ => rfl) fun F => ok_law_are_right F bl f_law_joined f_law_draw f_law_due f_relation f_law_same
  exact ok_law (fun_mk (st := st_law) l c kp) bl f_law_pen f_law_rules f_law_cell_at f_law_kind_rows f_law_has_filling f_law_draw f_law_are_right
end B

open PySem PySem.W PyProof.Rows
set_option maxRecDepth 100000 in
set_option maxHeartbeats 0 in
theorem PySem.Challenge.cw_blankcells_k09_relations_told_holds : PySem.Challenge.rw_blankcells_k09_relations_told.Holds := by
  w_on; o_law; k_head; (case hw => w_witness2)
  k_fill
  refine Dw.walkG (l := PySem.Challenge.rw_blankcells_k09_relations_told) (n := 63) (k := 11) (x := "_law_script") (sp := fun K => Dw.spOf K B.S_law) rfl (by decide) rfl ⟨rfl, by decide, by decide⟩ (fun w h Y => PySem.W.kIn_of Y) ?F fun K G a ns hl _ hS => Dw.law_start ⟨ns, rfl, hl, rfl⟩ hS
  case F =>
    intro w mg fa h KX G hmg
    refine' B.all_mk KX G hmg ?z_len ?z_range ?z_tuple ?z_list ?z_max ?z_min ?z_all ?z_any ?z_sorted ?z_repr ?z_isinstance ?z_int ?z_bool ?z_str ?z_enumerate ?z_zip ?z_set ?z_dict ?k_MOST_COLUMNS ?k_HIGHEST_VALUE ?k_MOST_ROWS ?k_MOST_RULES ?d_is_number ?d_is_number_set ?d_is_many ?d_is_column ?d_is_cell ?d_is_row ?d_are_rows ?d_is_table ?d_is_place ?d_are_columns ?d_is_rule ?d_are_rules ?d_need_table ?d_need_many ?d_need_rules ?d_need_place ?d_with_cells ?d_keeps_values ?d_row_pairs ?d_value_marks ?d_column_marks ?d_are_joined ?d_join_cells ?d_is_possible ?d_take_step ?d_take_rule_steps ?d_take_all_steps ?d_joined_marks ?d_lot_values ?d_known_rows ?d_has_clash ?d_has_filling ?d_filling_marks ?d_with_value ?d_can_be ?d_column_relation ?d_known_relation ?d_relation ?d_law_values ?d_law_joined ?d_law_is_clash ?d_law_has_filling ?d_law_same ?d_law_pen ?d_law_cell_at ?d_law_draw ?d_law_rule ?d_law_rules ?d_law_rows ?d_law_general ?d_law_kind_rows ?d_law_with ?d_law_value ?d_law_meets ?d_law_due ?d_law_are_right ?d_law
    (case z_len => k_is)
    (case z_range => k_is)
    (case z_tuple => k_is)
    (case z_list => k_is)
    (case z_max => k_is)
    (case z_min => k_is)
    (case z_all => k_is)
    (case z_any => k_is)
    (case z_sorted => k_is)
    (case z_repr => k_is)
    (case z_isinstance => k_is)
    (case z_int => k_is)
    (case z_bool => k_is)
    (case z_str => k_is)
    (case z_enumerate => k_is)
    (case z_zip => k_is)
    (case z_set => k_is)
    (case z_dict => k_is)
    (case k_MOST_COLUMNS => k_is)
    (case k_HIGHEST_VALUE => k_is)
    (case k_MOST_ROWS => k_is)
    (case k_MOST_RULES => k_is)
    (case d_is_number => (refine' Dw.def_in ?a ?l ?c ?k; (case a => k_is); (case l => k_is); (case c => k_is); (case k => k_is)))
    (case d_is_number_set => (refine' Dw.def_in ?a ?l ?c ?k; (case a => k_is); (case l => k_is); (case c => k_is); (case k => k_is)))
    (case d_is_many => (refine' Dw.def_in ?a ?l ?c ?k; (case a => k_is); (case l => k_is); (case c => k_is); (case k => k_is)))
    (case d_is_column => (refine' Dw.def_in ?a ?l ?c ?k; (case a => k_is); (case l => k_is); (case c => k_is); (case k => k_is)))
    (case d_is_cell => (refine' Dw.def_in ?a ?l ?c ?k; (case a => k_is); (case l => k_is); (case c => k_is); (case k => k_is)))
    (case d_is_row => (refine' Dw.def_in ?a ?l ?c ?k; (case a => k_is); (case l => k_is); (case c => k_is); (case k => k_is)))
    (case d_are_rows => (refine' Dw.def_in ?a ?l ?c ?k; (case a => k_is); (case l => k_is); (case c => k_is); (case k => k_is)))
    (case d_is_table => (refine' Dw.def_in ?a ?l ?c ?k; (case a => k_is); (case l => k_is); (case c => k_is); (case k => k_is)))
    (case d_is_place => (refine' Dw.def_in ?a ?l ?c ?k; (case a => k_is); (case l => k_is); (case c => k_is); (case k => k_is)))
    (case d_are_columns => (refine' Dw.def_in ?a ?l ?c ?k; (case a => k_is); (case l => k_is); (case c => k_is); (case k => k_is)))
    (case d_is_rule => (refine' Dw.def_in ?a ?l ?c ?k; (case a => k_is); (case l => k_is); (case c => k_is); (case k => k_is)))
    (case d_are_rules => (refine' Dw.def_in ?a ?l ?c ?k; (case a => k_is); (case l => k_is); (case c => k_is); (case k => k_is)))
    (case d_need_table => (refine' Dw.def_in ?a ?l ?c ?k; (case a => k_is); (case l => k_is); (case c => k_is); (case k => k_is)))
    (case d_need_many => (refine' Dw.def_in ?a ?l ?c ?k; (case a => k_is); (case l => k_is); (case c => k_is); (case k => k_is)))
    (case d_need_rules => (refine' Dw.def_in ?a ?l ?c ?k; (case a => k_is); (case l => k_is); (case c => k_is); (case k => k_is)))
    (case d_need_place => (refine' Dw.def_in ?a ?l ?c ?k; (case a => k_is); (case l => k_is); (case c => k_is); (case k => k_is)))
    (case d_with_cells => (refine' Dw.def_in ?a ?l ?c ?k; (case a => k_is); (case l => k_is); (case c => k_is); (case k => k_is)))
    (case d_keeps_values => (refine' Dw.def_in ?a ?l ?c ?k; (case a => k_is); (case l => k_is); (case c => k_is); (case k => k_is)))
    (case d_row_pairs => (refine' Dw.def_in ?a ?l ?c ?k; (case a => k_is); (case l => k_is); (case c => k_is); (case k => k_is)))
    (case d_value_marks => (refine' Dw.def_in ?a ?l ?c ?k; (case a => k_is); (case l => k_is); (case c => k_is); (case k => k_is)))
    (case d_column_marks => (refine' Dw.def_in ?a ?l ?c ?k; (case a => k_is); (case l => k_is); (case c => k_is); (case k => k_is)))
    (case d_are_joined => (refine' Dw.def_in ?a ?l ?c ?k; (case a => k_is); (case l => k_is); (case c => k_is); (case k => k_is)))
    (case d_join_cells => (refine' Dw.def_in ?a ?l ?c ?k; (case a => k_is); (case l => k_is); (case c => k_is); (case k => k_is)))
    (case d_is_possible => (refine' Dw.def_in ?a ?l ?c ?k; (case a => k_is); (case l => k_is); (case c => k_is); (case k => k_is)))
    (case d_take_step => (refine' Dw.def_in ?a ?l ?c ?k; (case a => k_is); (case l => k_is); (case c => k_is); (case k => k_is)))
    (case d_take_rule_steps => (refine' Dw.def_in ?a ?l ?c ?k; (case a => k_is); (case l => k_is); (case c => k_is); (case k => k_is)))
    (case d_take_all_steps => (refine' Dw.def_in ?a ?l ?c ?k; (case a => k_is); (case l => k_is); (case c => k_is); (case k => k_is)))
    (case d_joined_marks => (refine' Dw.def_in ?a ?l ?c ?k; (case a => k_is); (case l => k_is); (case c => k_is); (case k => k_is)))
    (case d_lot_values => (refine' Dw.def_in ?a ?l ?c ?k; (case a => k_is); (case l => k_is); (case c => k_is); (case k => k_is)))
    (case d_known_rows => (refine' Dw.def_in ?a ?l ?c ?k; (case a => k_is); (case l => k_is); (case c => k_is); (case k => k_is)))
    (case d_has_clash => (refine' Dw.def_in ?a ?l ?c ?k; (case a => k_is); (case l => k_is); (case c => k_is); (case k => k_is)))
    (case d_has_filling => (refine' Dw.def_in ?a ?l ?c ?k; (case a => k_is); (case l => k_is); (case c => k_is); (case k => k_is)))
    (case d_filling_marks => (refine' Dw.def_in ?a ?l ?c ?k; (case a => k_is); (case l => k_is); (case c => k_is); (case k => k_is)))
    (case d_with_value => (refine' Dw.def_in ?a ?l ?c ?k; (case a => k_is); (case l => k_is); (case c => k_is); (case k => k_is)))
    (case d_can_be => (refine' Dw.def_in ?a ?l ?c ?k; (case a => k_is); (case l => k_is); (case c => k_is); (case k => k_is)))
    (case d_column_relation => (refine' Dw.def_in ?a ?l ?c ?k; (case a => k_is); (case l => k_is); (case c => k_is); (case k => k_is)))
    (case d_known_relation => (refine' Dw.def_in ?a ?l ?c ?k; (case a => k_is); (case l => k_is); (case c => k_is); (case k => k_is)))
    (case d_relation => (refine' Dw.def_in ?a ?l ?c ?k; (case a => k_is); (case l => k_is); (case c => k_is); (case k => k_is)))
    (case d_law_values => (refine' Dw.def_in ?a ?l ?c ?k; (case a => k_is); (case l => k_is); (case c => k_is); (case k => k_is)))
    (case d_law_joined => (refine' Dw.def_in ?a ?l ?c ?k; (case a => k_is); (case l => k_is); (case c => k_is); (case k => k_is)))
    (case d_law_is_clash => (refine' Dw.def_in ?a ?l ?c ?k; (case a => k_is); (case l => k_is); (case c => k_is); (case k => k_is)))
    (case d_law_has_filling => (refine' Dw.def_in ?a ?l ?c ?k; (case a => k_is); (case l => k_is); (case c => k_is); (case k => k_is)))
    (case d_law_same => (refine' Dw.def_in ?a ?l ?c ?k; (case a => k_is); (case l => k_is); (case c => k_is); (case k => k_is)))
    (case d_law_pen => (refine' Dw.def_in ?a ?l ?c ?k; (case a => k_is); (case l => k_is); (case c => k_is); (case k => k_is)))
    (case d_law_cell_at => (refine' Dw.def_in ?a ?l ?c ?k; (case a => k_is); (case l => k_is); (case c => k_is); (case k => k_is)))
    (case d_law_draw => (refine' Dw.def_in ?a ?l ?c ?k; (case a => k_is); (case l => k_is); (case c => k_is); (case k => k_is)))
    (case d_law_rule => (refine' Dw.def_in ?a ?l ?c ?k; (case a => k_is); (case l => k_is); (case c => k_is); (case k => k_is)))
    (case d_law_rules => (refine' Dw.def_in ?a ?l ?c ?k; (case a => k_is); (case l => k_is); (case c => k_is); (case k => k_is)))
    (case d_law_rows => (refine' Dw.def_in ?a ?l ?c ?k; (case a => k_is); (case l => k_is); (case c => k_is); (case k => k_is)))
    (case d_law_general => (refine' Dw.def_in ?a ?l ?c ?k; (case a => k_is); (case l => k_is); (case c => k_is); (case k => k_is)))
    (case d_law_kind_rows => (refine' Dw.def_in ?a ?l ?c ?k; (case a => k_is); (case l => k_is); (case c => k_is); (case k => k_is)))
    (case d_law_with => (refine' Dw.def_in ?a ?l ?c ?k; (case a => k_is); (case l => k_is); (case c => k_is); (case k => k_is)))
    (case d_law_value => (refine' Dw.def_in ?a ?l ?c ?k; (case a => k_is); (case l => k_is); (case c => k_is); (case k => k_is)))
    (case d_law_meets => (refine' Dw.def_in ?a ?l ?c ?k; (case a => k_is); (case l => k_is); (case c => k_is); (case k => k_is)))
    (case d_law_due => (refine' Dw.def_in ?a ?l ?c ?k; (case a => k_is); (case l => k_is); (case c => k_is); (case k => k_is)))
    (case d_law_are_right => (refine' Dw.def_in ?a ?l ?c ?k; (case a => k_is); (case l => k_is); (case c => k_is); (case k => k_is)))
    (case d_law => (refine' Dw.def_in ?a ?l ?c ?k; (case a => k_is); (case l => k_is); (case c => k_is); (case k => k_is)))

