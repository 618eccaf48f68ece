import PyProof.Rows.All
import Wide.All
import OpenK.AllK
import Wide.FinOn
import HandS.ForMost
import HandS.IsInst
import HandS.TupAny
import HandS.TupMul
import HandS.Style
import HandS.Lambda
import PyProof.ReprRoads
import PyProof.ReprLen
import HandS.EndBits
import HandS.TryMany
import HandS.ExcInit
import HandS.WordsExc
import HandS.ExcField
import HandS.EndTab
import HandS.Zip0
import HandS.SortInts
import KE.KNestM
import KE.RegKTryMore
import HandS.Conv
import HandS.SortRule
import HandS.Deep
import KE.KExcIs
import HandS.ExcIs
import HandS.Zip
import HandS.Dict
import HandS.More
import HandS.SortOrd
import KE.KDictSum
import KE.KDictDisplayH
import PyProof.DictTable
import KE.SortData
import HandS.TupLe
import PySem.Challenge.RW_staybars_k68_heaps_turned_over
set_option Elab.async false
set_option linter.all false
set_option maxRecDepth 100000
set_option maxHeartbeats 4000000
/-! Data without addresses: what a value of the machine says (Dw), while some lists (W) belong to somebody. -/
namespace DD
open PySem L2
abbrev Fg := PySem.W.Frag
def keyD : Key → PyData
  | .inl i => .int i
  | .inr x => .str x
/-- a tuple of the written part -/
def KTup (K : Fg) (a : Addr) (xs : List V) : Prop :=
  ∃ (o : Obj) (its : Array Value) (n : Nat), K.lookup a = some o ∧ o.cls = .type "tuple" ∧ o.data = .seq its n ∧ its.size ≤ sizeLine ∧ Vals xs its.toList
mutual
inductive Dw (K : Fg) (H : Hp) (W : List Addr) : V → PyData → Prop
  | non : Dw K H W .non .none
  | bl (b : Bool) : Dw K H W (.bl b) (.bool b)
  | int (i : Int) : Dw K H W (.int i) (.int i)
  | str (x : Str) : Dw K H W (.str x) (.str x)
  | lst {a : Addr} {xs : List V} {ds : List PyData} : a ∉ W → H a = some (.lst xs) → DwA K H W xs ds → Dw K H W (.ref a) (.list ds)
  | tup {a : Addr} {xs : List V} {ds : List PyData} : H a = some (.tup xs) → DwA K H W xs ds → Dw K H W (.ref a) (.tuple ds)
  | ktup {a : Addr} {xs : List V} {ds : List PyData} : KTup K a xs → DwA K H W xs ds → Dw K H W (.ref a) (.tuple ds)
  | dct {a : Addr} {kvs : List (Key × V)} {ds : List (PyData × PyData)} : a ∉ W → H a = some (.dK kvs) → ds.map (·.1) = kvs.map (fun p => keyD p.1) → DwA K H W (kvs.map (·.2)) (ds.map (·.2)) →
      Dw K H W (.ref a) (.dict ds)
  | dcT {a : Addr} {kvs : List (List Key × V)} {ds : List (PyData × PyData)} : a ∉ W → H a = some (.dT kvs) → ds ≠ [] → ds.map (·.1) = kvs.map (fun p => PyData.tuple (p.1.map keyD)) → DwA K H W (kvs.map (·.2)) (ds.map (·.2)) →
      Dw K H W (.ref a) (.dict ds)
inductive DwA (K : Fg) (H : Hp) (W : List Addr) : List V → List PyData → Prop
  | nil : DwA K H W [] []
  | cons {v : V} {vs : List V} {d : PyData} {ds : List PyData} : Dw K H W v d → DwA K H W vs ds → DwA K H W (v :: vs) (d :: ds)
end
/-- what belongs to nobody is as it was, and every tuple -/
def Ext (W : List Addr) (H H' : Hp) : Prop := ∀ b o, (b ∉ W ∨ ∃ xs, o = HO.tup xs) → H b = some o → H' b = some o
theorem Ext.un {W : List Addr} {H H' : Hp} {b : Addr} {o : HO} (e : Ext W H H') (n : b ∉ W) (h : H b = some o) : H' b = some o := e b o (.inl n) h
theorem Ext.tp {W : List Addr} {H H' : Hp} {b : Addr} {xs : List V} (e : Ext W H H') (h : H b = some (.tup xs)) : H' b = some (.tup xs) := e b _ (.inr ⟨_, rfl⟩) h
/-- one object of one's own changes -/
theorem Ext.one {W : List Addr} {H : Hp} {a : Addr} {u v : HO} (ha : H a = some u) (hw : a ∈ W) (hu : ∀ xs, u ≠ .tup xs) : Ext W H (upd H a v) := fun b o n h => by
  rw [upd_ne fun e => ?_]
  · exact h
  · subst e
    rcases n with n | ⟨xs, rfl⟩
    · exact n hw
    · rw [ha] at h; exact hu xs (Option.some.inj h)
theorem Ext.refl (W : List Addr) (H : Hp) : Ext W H H := fun _ _ _ h => h
theorem Ext.trans {W : List Addr} {H H1 H2 : Hp} (a : Ext W H H1) (b : Ext W H1 H2) : Ext W H H2 := fun c o n h => b c o n (a c o n h)
theorem Ext.sub {W W' : List Addr} {H H' : Hp} (a : Ext W' H H') (s : ∀ x ∈ W', x ∈ W) : Ext W H H' := fun c o n h => a c o (n.imp (fun n z => n (s c z)) id) h
theorem Ext.same {W : List Addr} {H H' : Hp} (a : Same H H') : Ext W H H' := fun c o _ h => a c o h
section
variable {K : Fg} {H H' : Hp} {W W' : List Addr}
mutual
theorem Dw.to (e : Ext W H H') (s : ∀ a ∈ W', a ∈ W) : ∀ {v : V} {d : PyData}, Dw K H W v d → Dw K H' W' v d
  | _, _, .non => .non
  | _, _, .bl b => .bl b
  | _, _, .int i => .int i
  | _, _, .str x => .str x
  | _, _, .lst n r q => .lst (fun z => n (s _ z)) (e.un n r) (DwA.to e s q)
  | _, _, .tup r q => .tup (e.tp r) (DwA.to e s q)
  | _, _, .ktup k q => .ktup k (DwA.to e s q)
  | _, _, .dct n r k q => .dct (fun z => n (s _ z)) (e.un n r) k (DwA.to e s q)
  | _, _, .dcT n r e0 k q => .dcT (fun z => n (s _ z)) (e.un n r) e0 k (DwA.to e s q)
theorem DwA.to (e : Ext W H H') (s : ∀ a ∈ W', a ∈ W) : ∀ {vs : List V} {ds : List PyData}, DwA K H W vs ds → DwA K H' W' vs ds
  | _, _, .nil => .nil
  | _, _, .cons a b => .cons (Dw.to e s a) (DwA.to e s b)
end
mutual
/-- a new object that somebody owns -/
theorem Dw.new {p : Addr} {o : HO} (h : H p = none) : ∀ {v : V} {d : PyData}, Dw K H W v d → Dw K (upd H p o) (p :: W) v d
  | _, _, .non => .non
  | _, _, .bl b => .bl b
  | _, _, .int i => .int i
  | _, _, .str x => .str x
  | _, _, .lst n r q => .lst (by simp only [List.mem_cons, not_or]; exact ⟨ne_of_none r h, n⟩) (by rw [upd_ne (ne_of_none r h)]; exact r) (DwA.new h q)
  | _, _, .tup r q => .tup (by rw [upd_ne (ne_of_none r h)]; exact r) (DwA.new h q)
  | _, _, .ktup k q => .ktup k (DwA.new h q)
  | _, _, .dct n r k q => .dct (by simp only [List.mem_cons, not_or]; exact ⟨ne_of_none r h, n⟩) (by rw [upd_ne (ne_of_none r h)]; exact r) k (DwA.new h q)
  | _, _, .dcT n r e0 k q => .dcT (by simp only [List.mem_cons, not_or]; exact ⟨ne_of_none r h, n⟩) (by rw [upd_ne (ne_of_none r h)]; exact r) e0 k (DwA.new h q)
theorem DwA.new {p : Addr} {o : HO} (h : H p = none) : ∀ {vs : List V} {ds : List PyData}, DwA K H W vs ds → DwA K (upd H p o) (p :: W) vs ds
  | _, _, .nil => .nil
  | _, _, .cons a b => .cons (Dw.new h a) (DwA.new h b)
end
theorem DwA.length : ∀ {vs : List V} {ds : List PyData}, DwA K H W vs ds → vs.length = ds.length
  | _, _, .nil => rfl
  | _, _, .cons _ b => by simp [DwA.length b]
theorem DwA.append : ∀ {vs ws : List V} {ds es : List PyData}, DwA K H W vs ds → DwA K H W ws es → DwA K H W (vs ++ ws) (ds ++ es)
  | _, _, _, _, .nil, q => q
  | _, _, _, _, .cons a b, q => .cons a (DwA.append b q)
theorem DwA.get : ∀ {vs : List V} {ds : List PyData} {i : Nat} {d : PyData}, DwA K H W vs ds → ds[i]? = some d → ∃ v, vs[i]? = some v ∧ Dw K H W v d
  | _, _, _, _, .nil, h => by simp at h
  | _, _, 0, _, .cons a _, h => by simp at h; subst h; exact ⟨_, rfl, a⟩
  | _, _, i + 1, d, .cons _ b, h => by
    obtain ⟨v, h1, h2⟩ := DwA.get (i := i) (d := d) b (by simpa using h)
    exact ⟨v, by simpa using h1, h2⟩
theorem DwA.get' {vs : List V} {ds : List PyData} {i : Nat} {v : V} (q : DwA K H W vs ds) (h : vs[i]? = some v) : ∃ d, ds[i]? = some d ∧ Dw K H W v d := by
  have hi : i < ds.length := by rw [← q.length]; exact (List.getElem?_eq_some_iff.mp h).1
  obtain ⟨u, h1, h2⟩ := q.get (List.getElem?_eq_getElem hi)
  rw [h] at h1
  cases h1
  exact ⟨_, List.getElem?_eq_getElem hi, h2⟩
theorem DwA.take : ∀ {vs : List V} {ds : List PyData} (n : Nat), DwA K H W vs ds → DwA K H W (vs.take n) (ds.take n)
  | _, _, 0, _ => .nil
  | _, _, _ + 1, .nil => .nil
  | _, _, n + 1, .cons a b => .cons a (DwA.take n b)
theorem DwA.drop : ∀ {vs : List V} {ds : List PyData} (n : Nat), DwA K H W vs ds → DwA K H W (vs.drop n) (ds.drop n)
  | _, _, 0, q => q
  | _, _, _ + 1, .nil => .nil
  | _, _, n + 1, .cons _ b => DwA.drop n b
theorem DwA.erase : ∀ {vs : List V} {ds : List PyData} (i : Nat), DwA K H W vs ds → DwA K H W (vs.eraseIdx i) (ds.eraseIdx i)
  | _, _, _, .nil => .nil
  | _, _, 0, .cons _ b => b
  | _, _, i + 1, .cons a b => .cons a (DwA.erase i b)
theorem DwA.set : ∀ {vs : List V} {ds : List PyData} (i : Nat) {v : V} {d : PyData}, DwA K H W vs ds → Dw K H W v d → DwA K H W (vs.set i v) (ds.set i d)
  | _, _, _, _, _, .nil, _ => .nil
  | _, _, 0, _, _, .cons _ b, q => .cons q b
  | _, _, i + 1, _, _, .cons a b, q => .cons a (DwA.set i b q)
theorem DwA.rep {vs : List V} {ds : List PyData} (q : DwA K H W vs ds) : ∀ n : Nat, DwA K H W (List.replicate n vs).flatten (List.replicate n ds).flatten
  | 0 => .nil
  | n + 1 => by
    rw [List.replicate_succ, List.replicate_succ, List.flatten_cons, List.flatten_cons]
    exact q.append (DwA.rep q n)
theorem Dw.sqT {a : Addr} {ds : List PyData} (h : Dw K H W (.ref a) (.tuple ds)) : ∃ xs, SqT K H a xs ∧ DwA K H W xs ds := by
  cases h with
  | tup r q => exact ⟨_, SqT.of r, q⟩
  | ktup k q =>
    obtain ⟨o, its, n, h1, h2, h3, h4, h5⟩ := k
    exact ⟨_, .inr ⟨o, its, n, h1, h2, h3, h4, h5⟩, q⟩
theorem Dw.sqL {a : Addr} {ds : List PyData} (h : Dw K H W (.ref a) (.list ds)) : ∃ xs, SqL K H a xs ∧ DwA K H W xs ds := by
  cases h with
  | lst n r q => exact ⟨_, SqL.of r, q⟩
theorem Dw.tupV {v : V} {ds : List PyData} (h : Dw K H W v (.tuple ds)) : ∃ a, v = .ref a := by cases h <;> exact ⟨_, rfl⟩
theorem Dw.lstV {v : V} {ds : List PyData} (h : Dw K H W v (.list ds)) : ∃ a, v = .ref a := by cases h <;> exact ⟨_, rfl⟩
theorem Dw.newTup {p : Addr} {xs : List V} {ds : List PyData} (h : H p = none) (hp : p ∉ W) (q : DwA K H W xs ds) : Dw K (upd H p (.tup xs)) W (.ref p) (.tuple ds) :=
  (.tup upd_same (q.to (fun b o _ e => by rw [upd_ne (ne_of_none e h)]; exact e) fun _ z => z))
theorem Dw.newLst {p : Addr} {xs : List V} {ds : List PyData} (h : H p = none) (hp : p ∉ W) (q : DwA K H W xs ds) : Dw K (upd H p (.lst xs)) W (.ref p) (.list ds) :=
  .lst hp upd_same (q.to (fun b o _ e => by rw [upd_ne (ne_of_none e h)]; exact e) fun _ z => z)
end
/-! ### what the machine reads of such a value -/
section
variable {X : Cx} {pins : List (Addr × Obj)} {σ : St} {H : Hp} {s : Shared} {W : List Addr}
mutual
theorem Dw.reads (I : Inv X pins σ H s) : ∀ (d : PyData) (v : V) (u : Value), d.hasDict = false → Dw X.K H W v d → RelV v u → ∃ as, Reads s.heap u d as
  | .none, _, _, _, h, r => by cases h; cases r; exact ⟨_, Reads.none⟩
  | .bool b, _, _, _, h, r => by cases h; cases r; exact ⟨_, Reads.bool b⟩
  | .int i, _, _, _, h, r => by cases h; obtain ⟨t, rfl⟩ := r; exact ⟨_, Reads.int i t⟩
  | .str x, _, _, _, h, r => by cases h; obtain ⟨t, rfl⟩ := r; exact ⟨_, Reads.str x t⟩
  | .list ds, v, _, hd, h, r => by
    obtain ⟨a, rfl⟩ := h.lstV
    obtain ⟨xs, hs, q⟩ := h.sqL
    cases r
    obtain ⟨its, rv, ⟨o, n, e, hc, _, hdat⟩, _⟩ := I.list hs
    obtain ⟨as, hr⟩ := DwA.reads I ds xs its (by simpa only [PyData.hasDict] using hd) q rv
    exact ⟨_, Reads.list e hc hdat (by simpa using hr)⟩
  | .tuple ds, v, _, hd, h, r => by
    obtain ⟨a, rfl⟩ := h.tupV
    obtain ⟨xs, hs, q⟩ := h.sqT
    cases r
    obtain ⟨its, rv, ⟨o, e, hc, n, hdat⟩, _⟩ := I.tuple hs
    obtain ⟨as, hr⟩ := DwA.reads I ds xs its (by simpa only [PyData.hasDict] using hd) q rv
    exact ⟨_, Reads.tuple e hc hdat (by simpa using hr)⟩
  | .dict kvs, _, _, hd, _, _ => by simp only [PyData.hasDict] at hd; cases hd
theorem DwA.reads (I : Inv X pins σ H s) : ∀ (ds : List PyData) (vs : List V) (us : List Value), PyData.hasDictAll ds = false → DwA X.K H W vs ds → Vals vs us → ∃ as, ReadsAll s.heap us ds as
  | [], _, _, _, h, r => by cases h; cases r; exact ⟨_, ReadsAll.nil⟩
  | d :: ds, _, _, hd, h, r => by
    rw [PyData.hasDictAll, Bool.or_eq_false_iff] at hd
    cases h with
    | cons h1 h2 =>
      cases r with
      | cons r1 r2 =>
        obtain ⟨as, q1⟩ := Dw.reads I d _ _ hd.1 h1 r1
        obtain ⟨bs, q2⟩ := DwA.reads I ds _ _ hd.2 h2 r2
        exact ⟨_, ReadsAll.cons q1 q2⟩
end
end
end DD

/-! States by slots, the judgements over data. -/
namespace DD
open PySem L2
/-- what a slot holds: data; a list of the def's own (nobody else has it); the source of draws -/
inductive OD where
  | dT (kvs : List (List Key × PyData)) | dK (kvs : List (Key × PyData)) | set (S : Int → Bool) (n : Nat)
/-- an object of one's own that is no list, as data -/
def OdAt (K : Fg) (H : Hp) (W : List Addr) : HO → OD → Prop
  | .dT ks, .dT kvs => ks.map (·.1) = kvs.map (·.1) ∧ DwA K H W (ks.map (·.2)) (kvs.map (·.2))
  | .dK ks, .dK kvs => ks.map (·.1) = kvs.map (·.1) ∧ DwA K H W (ks.map (·.2)) (kvs.map (·.2))
  | .set S n, .set T m => S = T ∧ n = m
  | _, _ => False
theorem OdAt.ne {K : Fg} {H : Hp} {W : List Addr} {u : HO} {o : OD} (h : OdAt K H W u o) : ∀ xs, u ≠ .lst xs := by
  rintro xs rfl
  cases o <;> exact h.elim
theorem OdAt.to {K : Fg} {H H' : Hp} {W W' : List Addr} {u : HO} {o : OD} (h : OdAt K H W u o) (e : Ext W H H') (s : ∀ a ∈ W', a ∈ W) : OdAt K H' W' u o := by
  unfold OdAt at h ⊢
  split at h
  · exact ⟨h.1, h.2.to e s⟩
  · exact ⟨h.1, h.2.to e s⟩
  · exact h
  · exact h.elim
theorem OdAt.new {K : Fg} {H : Hp} {W : List Addr} {u v : HO} {o : OD} {p : Addr} (hp : H p = none) (h : OdAt K H W u o) : OdAt K (upd H p v) (p :: W) u o := by
  unfold OdAt at h ⊢
  split at h
  · exact ⟨h.1, DwA.new hp h.2⟩
  · exact ⟨h.1, DwA.new hp h.2⟩
  · exact h
  · exact h.elim
inductive D where
  | dat (d : PyData) | own (ds : List PyData) | src | scr (ns : List Int) | obj (o : OD)
abbrev Env' := List (Option D)
/-- the source of draws: two ints, none below nought -/
def SrcAt (H : Hp) (a : Addr) : Prop := ∃ x y : Int, H a = some (.lst [.int x, .int y]) ∧ 0 ≤ x ∧ 0 ≤ y ∧ y < 2147483648
theorem SrcAt.stay {H H' : Hp} {a : Addr} (h : SrcAt H a) (e : ∀ o, H a = some o → H' a = some o) : SrcAt H' a := by
  obtain ⟨x, y, q, h1⟩ := h
  exact ⟨x, y, e _ q, h1⟩
/-- the script: a list of ints that nobody changes -/
def ScrAt (K : Fg) (H : Hp) (W : List Addr) (a : Addr) (xs : List V) : Prop :=
  (a ∉ W ∧ ∃ o, H a = some (.frz o (.lst xs))) ∨
    ∃ (o : Obj) (its : Array Value) (n : Nat), K.lookup a = some o ∧ o.cls = .type "list" ∧ o.dict = none ∧ o.data = .seq its n ∧ its.size ≤ sizeLine ∧ Vals xs its.toList
theorem ScrAt.sq {K : Fg} {H : Hp} {W : List Addr} {a : Addr} {xs : List V} (h : ScrAt K H W a xs) : SqL K H a xs := by
  rcases h with ⟨_, o, h⟩ | h
  · exact .inl (.inr ⟨o, h⟩)
  · exact .inr h
theorem ScrAt.go {K : Fg} {H H' : Hp} {W W' : List Addr} {a : Addr} {xs : List V} (h : ScrAt K H W a xs) (f : ∀ o, a ∉ W → H a = some o → H' a = some o ∧ a ∉ W') : ScrAt K H' W' a xs := by
  rcases h with ⟨n, o, h⟩ | h
  · exact .inl ⟨(f _ n h).2, o, (f _ n h).1⟩
  · exact .inr h
/-- what may change though it was there: the source, the tables of the code objects -/
structure Sc where
  src : Option Addr
  tab : List (Addr × Str)
  fn : ∀ p ∈ tab, ∀ q ∈ tab, p.1 = q.1 → p.2 = q.2
  pin : Option Addr
def Sc.Has (s : Sc) (b : Addr) : Prop := s.src = some b ∨ ∃ p ∈ s.tab, p.1 = b
abbrev sc0 : Sc := ⟨none, [], (fun _ h => by cases h), none⟩
abbrev scS (a : Addr) : Sc := ⟨some a, [], (fun _ h => by cases h), none⟩
theorem Sc.no0 {b : Addr} : ¬ sc0.Has b := fun z => by
  rcases z with z | ⟨p, h, _⟩
  · cases z
  · cases h
theorem Sc.noS {a b : Addr} (h : b ≠ a) : ¬ (scS a).Has b := fun z => by
  rcases z with z | ⟨p, h, _⟩
  · cases z; exact h rfl
  · cases h
theorem tabs0 {H : Hp} : LamX.Tabs [] H := fun p h => by cases h
/-- what belongs to the tables is no list -/
theorem tabs_stay {T : List (Addr × Str)} {H H' : Hp} (t : LamX.Tabs T H) (e : ∀ b o, H b = some o → (∀ xs, o ≠ .lst xs) → H' b = some o) : LamX.Tabs T H' := fun p hp => by
  obtain ⟨ps, h1, h2, h3⟩ := t p hp
  refine ⟨ps, e _ _ h1 (fun xs z => by cases z), h2, fun pos cv hc => ?_⟩
  obtain ⟨c, e1, e2⟩ := h3 pos cv hc
  exact ⟨c, e1, e _ _ e2 (fun xs z => by unfold LamX.CodeO at z; cases z)⟩
theorem tabs_upd {T : List (Addr × Str)} {H : Hp} {a : Addr} {xs : List V} {u : HO} (t : LamX.Tabs T H) (ha : H a = some (.lst xs)) : LamX.Tabs T (upd H a u) :=
  tabs_stay t fun b o h n => by
    rw [upd_ne (fun e => by rw [e, ha] at h; exact n xs (Option.some.inj h).symm)]
    exact h
def SlotV (K : Fg) (H0 : Hp) (s : Sc) (W : List Addr) (H : Hp) (v : V) : D → Prop
  | .dat d => Dw K H W v d
  | .own ds => ∃ a xs, v = .ref a ∧ a ∈ W ∧ H0 a = none ∧ H a = some (.lst xs) ∧ DwA K H W xs ds
  | .src => ∃ a, v = .ref a ∧ s.src = some a
  | .scr ns => ∃ a, v = .ref a ∧ ScrAt K H W a (ns.map V.int)
  | .obj o => ∃ a u, v = .ref a ∧ a ∈ W ∧ H0 a = none ∧ H a = some u ∧ OdAt K H W u o
/-- an own list at the first place, where it is somebody else's, is that one -/
def Pin (s : Sc) (ρ : Env') (σ : St) : Prop := ∀ a, s.pin = some a → ∀ ds, ρ[0]? = some (some (.own ds)) → σ[0]? = some (some (.ref a))
/-- the state of a def's body: H0, W0 at its entry, s the source -/
structure SOk (K : Fg) (H0 : Hp) (W0 : List Addr) (s : Sc) (W : List Addr) (σ : St) (ρ : Env') (H : Hp) : Prop where
  sub : ∀ a ∈ W0, a ∈ W
  tr0 : ∀ a ∈ W0, ∃ o, H0 a = some o
  new : ∀ a ∈ W, a ∈ W0 ∨ H0 a = none
  tr : ∀ a ∈ W, ∃ o, H a = some o
  frame : ∀ b o, H0 b = some o → ¬ s.Has b → H b = some o
  src : ∀ a, s.src = some a → a ∈ W0 ∧ (∃ o, H0 a = some o) ∧ SrcAt H a
  tab : LamX.Tabs s.tab H ∧ ∀ p ∈ s.tab, p.1 ∈ W0 ∧ ∃ o, H0 p.1 = some o
  slot : ∀ (i : Nat) (d : D), ρ[i]? = some (some d) → ∃ v, σ[i]? = some (some v) ∧ SlotV K H0 s W H v d
  uniq : ∀ (i j : Nat) (v : V) (ds es : List PyData), ρ[i]? = some (some (.own ds)) → ρ[j]? = some (some (.own es)) → σ[i]? = some (some v) → σ[j]? = some (some v) → i = j
  len : σ.length = ρ.length ∧ Pin s ρ σ
section
variable {K : Fg} {H0 H H' : Hp} {W0 W W' : List Addr} {s : Sc} {σ : St} {ρ : Env'}
theorem SOk.has (S : SOk K H0 W0 s W σ ρ H) (b : Addr) (z : s.Has b) : b ∈ W0 ∧ ∃ o, H0 b = some o := by
  rcases z with z | ⟨q, hq, rfl⟩
  · exact ⟨(S.src b z).1, (S.src b z).2.1⟩
  · exact S.tab.2 q hq
theorem SOk.fresh (S : SOk K H0 W0 s W σ ρ H) {p : Addr} (h : H p = none) : p ∉ W := fun z => by
  obtain ⟨o, e⟩ := S.tr p z
  rw [h] at e
  cases e
theorem SOk.fresh0 (S : SOk K H0 W0 s W σ ρ H) {p : Addr} (h : H p = none) : H0 p = none := by
  cases e : H0 p with
  | none => rfl
  | some o =>
    by_cases z : s.Has p
    · rcases z with z | ⟨q, hq, rfl⟩
      · obtain ⟨_, _, x, y, q, _⟩ := S.src p z
        rw [h] at q
        cases q
      · obtain ⟨ps, q, _⟩ := S.tab.1 q hq
        rw [h] at q
        cases q
    · rw [S.frame p o e z] at h
      cases h
theorem SOk.noT (S : SOk K H0 W0 s W σ ρ H) {b : Addr} {xs : List V} (h : H b = some (.tup xs)) : ¬ s.Has b := fun z => by
  rcases z with z | ⟨q, hq, rfl⟩
  · obtain ⟨_, _, x, y, q, _⟩ := S.src b z
    rw [h] at q
    cases q
  · obtain ⟨ps, q, _⟩ := S.tab.1 q hq
    rw [h] at q
    cases q
theorem SOk.no' (S : SOk K H0 W0 s W σ ρ H) {b : Addr} {o : HO} (n : b ∉ W ∨ ∃ xs, o = HO.tup xs) (h : H b = some o) : ¬ s.Has b := by
  rcases n with n | ⟨xs, rfl⟩
  · exact fun z => n (S.sub _ (S.has b z).1)
  · exact S.noT h
/-- the heap changes by what belongs to nobody (it grows), or by the source's numbers -/
theorem SOk.grow (S : SOk K H0 W0 s W σ ρ H) (e : ∀ b o, ¬ s.Has b → H b = some o → H' b = some o) (hs : ∀ a, s.src = some a → SrcAt H' a) (ht : LamX.Tabs s.tab H') : SOk K H0 W0 s W σ ρ H' := by
  have hin : ∀ b, s.Has b → b ∈ W0 ∧ ∃ o, H0 b = some o := fun b z => by
    rcases z with z | ⟨q, hq, rfl⟩
    · exact ⟨(S.src b z).1, (S.src b z).2.1⟩
    · exact S.tab.2 q hq
  have ex : Ext W H H' := fun b o n h => e b o (S.no' n h) h
  refine ⟨S.sub, S.tr0, S.new, fun a ha => ?_, fun b o h n => e b o n (S.frame b o h n), fun a ha => ⟨(S.src a ha).1, (S.src a ha).2.1, hs a ha⟩, ⟨ht, S.tab.2⟩, fun i d hd => ?_, S.uniq, S.len⟩
  · obtain ⟨o, h⟩ := S.tr a ha
    by_cases z : s.Has a
    · rcases z with z | ⟨q, hq, rfl⟩
      · obtain ⟨x, y, q, _⟩ := hs a z
        exact ⟨_, q⟩
      · obtain ⟨ps, q, _⟩ := ht q hq
        exact ⟨_, q⟩
    · exact ⟨o, e a o z h⟩
  · obtain ⟨v, h1, h2⟩ := S.slot i d hd
    refine ⟨v, h1, ?_⟩
    cases d with
    | dat d => exact h2.to ex fun _ z => z
    | own ds =>
      obtain ⟨a, xs, rfl, q1, q2, q3, q4⟩ := h2
      refine ⟨a, xs, rfl, q1, q2, e a _ (fun z => ?_) q3, q4.to ex fun _ z => z⟩
      obtain ⟨_, o, w⟩ := hin a z
      rw [q2] at w
      cases w
    | src => exact h2
    | scr ns =>
      obtain ⟨a, rfl, q⟩ := h2
      exact ⟨a, rfl, q.go fun o n h => ⟨ex.un n h, n⟩⟩
    | obj ob =>
      obtain ⟨a, u, rfl, q1, q2, q3, q4⟩ := h2
      refine ⟨a, u, rfl, q1, q2, e a _ (fun z => ?_) q3, q4.to ex fun _ z => z⟩
      obtain ⟨_, o, w⟩ := hin a z
      rw [q2] at w
      cases w
theorem SOk.same (S : SOk K H0 W0 s W σ ρ H) (e : Same H H') : SOk K H0 W0 s W σ ρ H' :=
  S.grow (fun b o _ h => e b o h) (fun a ha => (S.src a ha).2.2.stay fun o h => e a o h) (S.tab.1.ext e)
theorem SOk.alloc (S : SOk K H0 W0 s W σ ρ H) {p : Addr} {o : HO} (h : H p = none) : SOk K H0 W0 s W σ ρ (upd H p o) :=
  S.same fun b u e => by rw [upd_ne (ne_of_none e h)]; exact e
/-- a slot takes data -/
theorem SOk.set (S : SOk K H0 W0 s W σ ρ H) {i : Nat} {v : V} {d : PyData} (h : Dw K H W v d) : SOk K H0 W0 s W (σ.set i (some v)) (ρ.set i (some (.dat d))) H := by
  refine ⟨S.sub, S.tr0, S.new, S.tr, S.frame, S.src, S.tab, fun j e hj => ?_, fun j k u ds es h1 h2 h3 h4 => ?_, by simp [S.len.1], fun a ha ds h0 => ?_⟩
  · by_cases z : i = j
    · subst z
      have hi : i < ρ.length := by
        have := (List.getElem?_eq_some_iff.mp hj).1
        simpa using this
      rw [List.getElem?_set_self hi] at hj
      cases hj
      exact ⟨v, by rw [List.getElem?_set_self (by rw [S.len.1]; exact hi)], h⟩
    · rw [List.getElem?_set_ne z] at hj
      rw [List.getElem?_set_ne z]
      exact S.slot j e hj
  · have a1 : i ≠ j := by
      rintro rfl
      have hi : i < ρ.length := by simpa using (List.getElem?_eq_some_iff.mp h1).1
      rw [List.getElem?_set_self hi] at h1
      cases h1
    have a2 : i ≠ k := by
      rintro rfl
      have hi : i < ρ.length := by simpa using (List.getElem?_eq_some_iff.mp h2).1
      rw [List.getElem?_set_self hi] at h2
      cases h2
    rw [List.getElem?_set_ne a1] at h1 h3
    rw [List.getElem?_set_ne a2] at h2 h4
    exact S.uniq j k u ds es h1 h2 h3 h4
  · have a1 : i ≠ 0 := by
      rintro rfl
      have hi : 0 < ρ.length := by simpa using (List.getElem?_eq_some_iff.mp h0).1
      rw [List.getElem?_set_self hi] at h0
      cases h0
    rw [List.getElem?_set_ne a1] at h0 ⊢
    exact S.len.2 a ha ds h0
/-- slots forgotten -/
theorem SOk.weak (S : SOk K H0 W0 s W σ ρ H) {σ' : St} {ρ' : Env'} (hl : σ'.length = ρ'.length) (h : ∀ (i : Nat) (d : D), ρ'[i]? = some (some d) → ρ[i]? = some (some d) ∧ ∀ v, σ[i]? = some v → σ'[i]? = some v)  : SOk K H0 W0 s W σ' ρ' H := by
  refine ⟨S.sub, S.tr0, S.new, S.tr, S.frame, S.src, S.tab, fun i d hd => ?_, fun i j v ds es h1 h2 h3 h4 => ?_, hl, fun a ha ds h0 => (h 0 _ h0).2 _ (S.len.2 a ha ds (h 0 _ h0).1)⟩
  · obtain ⟨q1, q2⟩ := h i d hd
    obtain ⟨v, e1, e2⟩ := S.slot i d q1
    exact ⟨v, q2 _ e1, e2⟩
  · obtain ⟨a1, a2⟩ := h i _ h1
    obtain ⟨b1, b2⟩ := h j _ h2
    obtain ⟨u, u1, _⟩ := S.slot i _ a1
    obtain ⟨w, w1, _⟩ := S.slot j _ b1
    have e1 := a2 _ u1
    have e2 := b2 _ w1
    rw [e1] at h3
    rw [e2] at h4
    cases h3
    cases h4
    exact S.uniq i j v ds es a1 b1 u1 w1
/-- an own list is handed over: nobody owns it any more -/
theorem SOk.freeze (S : SOk K H0 W0 s W σ ρ H) {i : Nat} {ds : List PyData} (hi : ρ[i]? = some (some (.own ds))) :
    ∃ a W', σ[i]? = some (some (.ref a)) ∧ (∀ x ∈ W', x ∈ W) ∧ SOk K H0 W0 s W' σ (ρ.set i (some (.dat (.list ds)))) H ∧ Dw K H W' (.ref a) (.list ds) := by
  obtain ⟨v, h1, a, xs, rfl, q1, q2, q3, q4⟩ := S.slot i _ hi
  have hil : i < ρ.length := (List.getElem?_eq_some_iff.mp hi).1
  have sub' : ∀ x ∈ W.filter (fun b => decide (b ≠ a)), x ∈ W := fun x hx => (List.mem_filter.mp hx).1
  have ndw : a ∉ W.filter (fun b => decide (b ≠ a)) := fun z => by
    have := (List.mem_filter.mp z).2
    simp at this
  have Q : Dw K H (W.filter fun b => decide (b ≠ a)) (.ref a) (.list ds) := .lst ndw q3 (q4.to (Ext.refl _ _) sub')
  by_cases z0 : a ∈ W0
  · -- cannot be: an owner's list of the entry stands in H0
    obtain ⟨o, e⟩ := S.tr0 a z0
    rw [q2] at e
    cases e
  · refine ⟨a, _, h1, sub', ⟨fun x hx => List.mem_filter.mpr ⟨S.sub x hx, by simp; rintro rfl; exact z0 hx⟩, S.tr0, fun x hx => S.new x (sub' x hx), fun x hx => S.tr x (sub' x hx), S.frame, S.src, S.tab, fun j d hj => ?_, fun j k v es fs g1 g2 g3 g4 => ?_, by simp [S.len.1], fun b hb es h0 => ?_⟩, Q⟩
    · by_cases z : i = j
      · subst z
        rw [List.getElem?_set_self hil] at hj
        cases hj
        exact ⟨_, h1, Q⟩
      · rw [List.getElem?_set_ne z] at hj
        obtain ⟨v, e1, e2⟩ := S.slot j d hj
        refine ⟨v, e1, ?_⟩
        cases d with
        | dat d => exact e2.to (Ext.refl _ _) sub'
        | own es =>
          obtain ⟨b, ys, rfl, r1, r2, r3, r4⟩ := e2
          refine ⟨b, ys, rfl, List.mem_filter.mpr ⟨r1, ?_⟩, r2, r3, r4.to (Ext.refl _ _) sub'⟩
          simp
          rintro rfl
          exact z (S.uniq i j _ _ _ hi hj h1 e1)
        | src => exact e2
        | scr ns =>
          obtain ⟨b, rfl, q⟩ := e2
          exact ⟨b, rfl, q.go fun o n h => ⟨h, fun z => n (sub' _ z)⟩⟩
        | obj ob =>
          obtain ⟨b, u, rfl, r1, r2, r3, r4⟩ := e2
          refine ⟨b, u, rfl, List.mem_filter.mpr ⟨r1, ?_⟩, r2, r3, r4.to (Ext.refl _ _) sub'⟩
          simp
          rintro rfl
          rw [q3] at r3
          exact r4.ne _ (Option.some.inj r3).symm
    · have a1 : i ≠ j := by rintro rfl; rw [List.getElem?_set_self hil] at g1; cases g1
      have a2 : i ≠ k := by rintro rfl; rw [List.getElem?_set_self hil] at g2; cases g2
      rw [List.getElem?_set_ne a1] at g1
      rw [List.getElem?_set_ne a2] at g2
      exact S.uniq j k v es fs g1 g2 g3 g4
    · have a1 : i ≠ 0 := by rintro rfl; rw [List.getElem?_set_self hil] at h0; cases h0
      rw [List.getElem?_set_ne a1] at h0
      exact S.len.2 b hb es h0
end
end DD

/-! The judgements over data, the expressions. -/
namespace DD
open PySem L2
/-- what is wanted of an error: the class at C made of the value d; and the tables of code objects that are needed -/
structure Er' where
  w : Addr → PyData → Prop
  T : List (Addr × Str)
abbrev Er'.bare (e : Er') : Er' := ⟨e.w, []⟩
abbrev DE := Env' → (PyData → Env' → Prop) → Er' → Prop
abbrev DT := Env' → (Bool → Env' → Prop) → Er' → Prop
abbrev DA := Env' → (List PyData → Env' → Prop) → Er' → Prop
/-- an error that is wanted so is wanted by the machine's reading -/
structure ErOk (K : Fg) (H0 : Hp) (W0 : List Addr) (s : Sc) (EX : XK) (Er : Er') : Prop where
  tabs : ∀ p ∈ Er.T, p ∈ s.tab
  wish : ∀ (C : Addr) (d : PyData) (dd : Addr) (v : V) (H : Hp), Er.w C d → (∀ b o, H0 b = some o → ¬ s.Has b → H b = some o) → (∀ a, s.src = some a → SrcAt H a) → LamX.Tabs s.tab H → H0 dd = none →
    H dd = some (.xd [(("value" : Str), v)]) → Dw K H W0 v d → EX (.ref C) (some dd) H
/-- behind an expression -/
def Bk (K : Fg) (H0 : Hp) (W0 : List Addr) (s : Sc) (W : List Addr) (σ : St) (H : Hp) (R : PyData → Env' → Prop) (Q : VK) : Prop :=
  ∀ (v : V) (d : PyData) (W' : List Addr) (ρ' : Env') (H' : Hp), R d ρ' → (∀ x ∈ W', x ∈ W) → Ext W H H' → SOk K H0 W0 s W' σ ρ' H' → Dw K H' W' v d → Q v H'
def BkT (K : Fg) (H0 : Hp) (W0 : List Addr) (s : Sc) (W : List Addr) (σ : St) (H : Hp) (R : Bool → Env' → Prop) (Q : Bool → Hp → Prop) : Prop :=
  ∀ (b : Bool) (W' : List Addr) (ρ' : Env') (H' : Hp), R b ρ' → (∀ x ∈ W', x ∈ W) → Ext W H H' → SOk K H0 W0 s W' σ ρ' H' → Q b H'
def BkA (K : Fg) (H0 : Hp) (W0 : List Addr) (s : Sc) (W : List Addr) (σ : St) (H : Hp) (R : List PyData → Env' → Prop) (Q : List V → Hp → Prop) : Prop :=
  ∀ (vs : List V) (ds : List PyData) (W' : List Addr) (ρ' : Env') (H' : Hp), R ds ρ' → (∀ x ∈ W', x ∈ W) → Ext W H H' → SOk K H0 W0 s W' σ ρ' H' → DwA K H' W' vs ds → Q vs H'
structure DEx (X : Cx) (EX : XK) (e : Expr) (dt : DE) : Prop where
  ex : ∃ t, PE X e t ∧ ∀ (s : Sc) (H0 : Hp) (W0 W : List Addr) (σ : St) (ρ : Env') (H : Hp) (R : PyData → Env' → Prop) (Er : Er') (Q : VK), SOk X.K H0 W0 s W σ ρ H → ErOk X.K H0 W0 s EX Er → dt ρ R Er → Bk X.K H0 W0 s W σ H R Q → t σ H Q
structure DTx (X : Cx) (EX : XK) (e : Expr) (dt : DT) : Prop where
  ex : ∃ t, PT X e t ∧ ∀ (s : Sc) (H0 : Hp) (W0 W : List Addr) (σ : St) (ρ : Env') (H : Hp) (R : Bool → Env' → Prop) (Er : Er') (Q : Bool → Hp → Prop), SOk X.K H0 W0 s W σ ρ H → ErOk X.K H0 W0 s EX Er → dt ρ R Er → BkT X.K H0 W0 s W σ H R Q → t σ H Q
structure DWx (X : Cx) (EX : XK) (e : Expr) (dt : DT) : Prop where
  ex : ∃ t, PW X e t ∧ ∀ (s : Sc) (H0 : Hp) (W0 W : List Addr) (σ : St) (ρ : Env') (H : Hp) (R : Bool → Env' → Prop) (Er : Er') (Q : Bool → Hp → Prop), SOk X.K H0 W0 s W σ ρ H → ErOk X.K H0 W0 s EX Er → dt ρ R Er → BkT X.K H0 W0 s W σ H R Q → t σ H Q
structure DAx (X : Cx) (EX : XK) (es : List Expr) (dt : DA) : Prop where
  ex : ∃ t, PA X es t ∧ ∀ (s : Sc) (H0 : Hp) (W0 W : List Addr) (σ : St) (ρ : Env') (H : Hp) (R : List PyData → Env' → Prop) (Er : Er') (Q : List V → Hp → Prop), SOk X.K H0 W0 s W σ ρ H → ErOk X.K H0 W0 s EX Er → dt ρ R Er → BkA X.K H0 W0 s W σ H R Q → t σ H Q
theorem DWx.pt {X : Cx} {EX : XK} {e : Expr} {dt : DT} (h : DWx X EX e dt) : DTx X EX e dt := by
  obtain ⟨t, p, q⟩ := h.ex
  exact ⟨t, p.pt, q⟩
theorem sub_tr {W W1 W2 : List Addr} (a : ∀ x ∈ W2, x ∈ W1) (b : ∀ x ∈ W1, x ∈ W) : ∀ x ∈ W2, x ∈ W := fun x h => b x (a x h)
theorem ext_tr {W W1 : List Addr} {H H1 H2 : Hp} (a : Ext W H H1) (b : Ext W1 H1 H2) (s : ∀ x ∈ W1, x ∈ W) : Ext W H H2 := a.trans (b.sub s)
section
variable {X : Cx} {EX : XK}
/-! ### names, constants -/
def dVar (i : Nat) : DE := fun ρ R _ => match ρ[i]? with
  | some (some (.dat d)) => R d ρ
  | _ => False
theorem de_var {i : Nat} {x : Str} {pos : Pos} (h : PE X (.Name x pos) (tVar i)) : DEx X EX (.Name x pos) (dVar i) := by
  refine ⟨tVar i, h, fun s H0 W0 W σ ρ H R Er Q S _ hd k => ?_⟩
  unfold dVar at hd
  split at hd
  · rename_i d e
    obtain ⟨v, h1, h2⟩ := S.slot i _ e
    exact ⟨v, h1, k v d W ρ H hd (fun _ z => z) (Ext.refl _ _) S h2⟩
  · exact hd.elim
/-- an own list is handed over -/
def dVarF (i : Nat) : DE := fun ρ R _ => match ρ[i]? with
  | some (some (.own ds)) => R (.list ds) (ρ.set i (some (.dat (.list ds))))
  | _ => False
theorem de_varF {i : Nat} {x : Str} {pos : Pos} (h : PE X (.Name x pos) (tVar i)) : DEx X EX (.Name x pos) (dVarF i) := by
  refine ⟨tVar i, h, fun s H0 W0 W σ ρ H R Er Q S _ hd k => ?_⟩
  unfold dVarF at hd
  split at hd
  · rename_i ds e
    obtain ⟨a, W', h1, sb, S', h2⟩ := S.freeze e
    exact ⟨.ref a, h1, k (.ref a) _ W' _ H hd sb (Ext.refl _ _) S' h2⟩
  · exact hd.elim
def dC (d : PyData) : DE := fun ρ R _ => R d ρ
theorem dC_ok {v : V} {d : PyData} {e : Expr} (h : PE X e (tC v)) (q : ∀ K H W, Dw K H W v d) : DEx X EX e (dC d) :=
  ⟨tC v, h, fun s H0 W0 W σ ρ H R Er Q S _ hd k => k v d W ρ H hd (fun _ z => z) (Ext.refl _ _) S (q _ _ _)⟩
theorem de_int {i : Int} {j pos} : DEx X EX (.Constant (.int i) j pos) (dC (.int i)) := dC_ok pe_int fun _ _ _ => .int i
theorem de_bl {b : Bool} {j pos} : DEx X EX (.Constant (.bool b) j pos) (dC (.bool b)) := dC_ok pe_bl fun _ _ _ => .bl b
theorem de_non {j pos} : DEx X EX (.Constant .none j pos) (dC .none) := dC_ok pe_non fun _ _ _ => .non
theorem de_str {x : Str} {j pos} : DEx X EX (.Constant (.str x) j pos) (dC (.str x)) := dC_ok pe_str fun _ _ _ => .str x
/-- a module's constant int -/
theorem de_gint {x : Str} {i : Int} {t : Tok} {pos : Pos} (hg : Gl X x) (hm : X.mg x = some (.int i t)) (hd : (x == ("__debug__" : Str)) = false := by decide) : DEx X EX (.Name x pos) (dC (.int i)) :=
  dC_ok (pe_glob (v := .int i) hg hm ⟨t, rfl⟩ hd) fun _ _ _ => .int i
/-- an expression seen weaker -/
theorem DEx.imp {e : Expr} {dt dt' : DE} (h : DEx X EX e dt) (q : ∀ ρ R Er, dt' ρ R Er → dt ρ R Er) : DEx X EX e dt' := by
  obtain ⟨t, p, r⟩ := h.ex
  exact ⟨t, p, fun s H0 W0 W σ ρ H R Er Q S eo hd k => r s H0 W0 W σ ρ H R Er Q S eo (q _ _ _ hd) k⟩
theorem DTx.imp {e : Expr} {dt dt' : DT} (h : DTx X EX e dt) (q : ∀ ρ R Er, dt' ρ R Er → dt ρ R Er) : DTx X EX e dt' := by
  obtain ⟨t, p, r⟩ := h.ex
  exact ⟨t, p, fun s H0 W0 W σ ρ H R Er Q S eo hd k => r s H0 W0 W σ ρ H R Er Q S eo (q _ _ _ hd) k⟩
/-! ### two operands -/
/-- what an operation does with data: a value, or nothing that we speak of -/
abbrev D2 := PyData → PyData → Option PyData
def dOp (f : D2) (a b : DE) : DE := fun ρ R Er => a ρ (fun x ρ1 => b ρ1 (fun y ρ2 => match f x y with
  | some z => R z ρ2
  | none => False) Er) Er
/-- a rule of values fits a rule of data -/
def R2Ok (K : Fg) (r : R2) (f : D2) : Prop := ∀ (H : Hp) (W : List Addr) (x y : V) (d e z : PyData) (Q : VK), Dw K H W x d → Dw K H W y e → f d e = some z →
  (∀ v H', Same H H' → (∀ p, H p = none → p ∉ W) → Dw K H' W v z → Q v H') → (∀ p, H p = none → p ∉ W) → r x y H Q
theorem op_ok {r : R2} {f : D2} {a b : Expr} {da db : DE} {e : Expr} (hr : R2Ok X.K r f) (ha : DEx X EX a da) (hb : DEx X EX b db) (mk : ∀ ta tb, PE X a ta → PE X b tb → PE X e (tOp r ta tb)) : DEx X EX e (dOp f da db) := by
  obtain ⟨ta, pa, qa⟩ := ha.ex
  obtain ⟨tb, pb, qb⟩ := hb.ex
  refine ⟨_, mk ta tb pa pb, fun s H0 W0 W σ ρ H R Er Q S eo hd k => ?_⟩
  refine qa s H0 W0 W σ ρ H _ Er _ S eo hd fun v d W1 ρ1 H1 hd1 s1 e1 S1 w1 => ?_
  refine qb s H0 W0 W1 σ ρ1 H1 _ Er _ S1 eo hd1 fun u e W2 ρ2 H2 hd2 s2 e2 S2 w2 => ?_
  have w1' : Dw X.K H2 W2 v d := w1.to e2 s2
  split at hd2
  · rename_i z hz
    exact hr H2 W2 v u d e z Q w1' w2 hz (fun y H3 sm _ w3 => k y z W2 ρ2 H3 hd2 (sub_tr s2 s1) ((ext_tr e1 e2 s1).trans (Ext.same sm)) (S2.same sm) w3) fun p hp => S2.fresh hp
  · exact hd2.elim
theorem R2Ok.or {K : Fg} {r r' : R2} {f f' : D2} (h : R2Ok K r f) (h' : R2Ok K r' f') : R2Ok K (fun x y H Q => r x y H Q ∨ r' x y H Q) (fun d e => match f d e with
    | some z => some z
    | none => f' d e) := by
  intro H W x y d e z Q hx hy hz k fr
  simp only at hz
  split at hz
  · rename_i w hw
    cases hz
    exact .inl (h H W x y d e _ Q hx hy hw k fr)
  · exact .inr (h' H W x y d e z Q hx hy hz k fr)
def dI2 (g : Int → Int → Int) : D2
  | .int i, .int j => some (.int (g i j))
  | _, _ => none
def dB2 (g : Int → Int → Bool) : D2
  | .int i, .int j => some (.bool (g i j))
  | _, _ => none
theorem r2_int {K : Fg} {g : Int → Int → Int} : R2Ok K (rI0 fun i j => .int (g i j)) (dI2 g) := by
  intro H W x y d e z Q hx hy hz k fr
  unfold dI2 at hz
  split at hz
  · cases hz
    cases hx
    cases hy
    exact ⟨_, _, rfl, rfl, k _ H (Same.refl H) fr (.int _)⟩
  · cases hz
theorem r2_bool {K : Fg} {g : Int → Int → Bool} : R2Ok K (rI0 fun i j => .bl (g i j)) (dB2 g) := by
  intro H W x y d e z Q hx hy hz k fr
  unfold dB2 at hz
  split at hz
  · cases hz
    cases hx
    cases hy
    exact ⟨_, _, rfl, rfl, k _ H (Same.refl H) fr (.bl _)⟩
  · cases hz
/-- with a condition that is decided -/
def dI2c (c : Int → Int → Bool) (g : Int → Int → Int) : D2
  | .int i, .int j => if c i j = true then some (.int (g i j)) else none
  | _, _ => none
theorem r2_intc {K : Fg} {C : Int → Int → Prop} {c : Int → Int → Bool} {g : Int → Int → Int} (h : ∀ i j, c i j = true → C i j) : R2Ok K (rI C fun i j => .int (g i j)) (dI2c c g) := by
  intro H W x y d e z Q hx hy hz k fr
  unfold dI2c at hz
  split at hz
  · split at hz
    · rename_i hc
      cases hz
      cases hx
      cases hy
      exact ⟨_, _, rfl, rfl, h _ _ hc, k _ H (Same.refl H) fr (.int _)⟩
    · cases hz
  · cases hz
end
end DD

/-! a tuple times an int, of any length -/
namespace DD
open PySem L2 PyProof.Rows
/-- once, or a tuple of nothing: the tuple itself -/
theorem tmul_same (l : Addr) (xs : Array Value) (n : Nat) (dd : Option Addr) (sl : Array (Option Value)) (x : Int) (u : Tok)
    (h0 : (decide (x < -(2 ^ 63)) || decide (x ≥ 2 ^ 63)) = false) (h1 : (xs.isEmpty || x == 1) = true) :
    Meets (Builtin.«tuple.__mul__» ⟨[.ref l, .int x u], []⟩) (fun _ R s =>
      s.heap.get? l = some { cls := .type "tuple", dict := dd, data := .seq xs n, slots := sl } ∧ R (.ok (.ret (Value.ref l))) s) :=
  .of_wp fun prog w A R s h => by
    obtain ⟨hp, g, d, tk, os⟩ := s
    obtain ⟨hl, h⟩ := h
    have fi := AutoSeq1.idx_int
    wp_walk using wpAny_loadPart' hl
    repeat (first
      | (refine wpAny_ite_false (decide_eq_false (by rw [h0]; exact Bool.false_ne_true)) ?_; wp_walk using wpAny_loadPart' hl)
      | (refine wpAny_ite_true (decide_eq_true h1) ?_; wp_walk using wpAny_loadPart' hl))
    all_goals first | exact ⟨_, rfl, h⟩ | trace_state
/-- no times, of a tuple of something: the empty tuple -/
theorem tmul_none (l : Addr) (xs : Array Value) (n : Nat) (dd : Option Addr) (sl : Array (Option Value)) (x : Int) (u : Tok)
    (h0 : (decide (x < -(2 ^ 63)) || decide (x ≥ 2 ^ 63)) = false) (h1 : (xs.isEmpty || x == 1) = false) (h2 : (decide (x ≤ 0) || xs.isEmpty) = true) :
    Meets (Builtin.«tuple.__mul__» ⟨[.ref l, .int x u], []⟩) (fun _ R s =>
      s.heap.get? l = some { cls := .type "tuple", dict := dd, data := .seq xs n, slots := sl } ∧
      R (.ok (.ret (Value.ref s.heap.objs.size))) { s with heap := s.heap.push { cls := Value.type "tuple", data := Data.seq #[] }, toks := s.toks }) :=
  .of_wp fun prog w A R s h => by
    obtain ⟨hp, g, d, tk, os⟩ := s
    obtain ⟨hl, h⟩ := h
    have fi := AutoSeq1.idx_int
    wp_walk using wpAny_loadPart' hl
    repeat (first
      | (refine wpAny_ite_false (decide_eq_false (by rw [h0]; exact Bool.false_ne_true)) ?_; wp_walk using wpAny_loadPart' hl)
      | (refine wpAny_ite_false (decide_eq_false (by rw [h1]; exact Bool.false_ne_true)) ?_; wp_walk using wpAny_loadPart' hl)
      | (refine wpAny_ite_true (decide_eq_true h2) ?_; wp_walk using wpAny_loadPart' hl))
    all_goals first | exact ⟨_, rfl, h⟩ | trace_state
/-- t * k at any k that is small -/
def rTMul (K : PySem.W.Frag) : R2 := fun x y H Q => ∃ l k xs, x = .ref l ∧ y = .int k ∧ SqT K H l xs ∧ -1000 ≤ k ∧ k ≤ 1000 ∧ xs.length ≤ 1000 ∧
  ((xs = [] ∨ k = 1) → Q (.ref l) H) ∧ (xs ≠ [] → k ≠ 1 → ∀ p, H p = none → Q (.ref p) (upd H p (.tup (List.replicate k.toNat xs).flatten)))
theorem op_tmul {X : Cx} : OpR X (binaryOp .Mult) (rTMul X.K) := by
  intro pins s σ H x y v u Q I rx ry h
  obtain ⟨l, k, xs, rfl, rfl, hT, b1, b2, hz, q1, q2⟩ := h
  by_cases hbig : xs ≠ [] ∧ 2 ≤ k
  · exact op_repT pins s σ H _ _ v u Q I rx ry ⟨l, k, xs, rfl, rfl, hT, hbig.1, hbig.2, b2, hz, q2 hbig.1 (by omega)⟩
  · cases rx
    obtain ⟨t, rfl⟩ := ry
    obtain ⟨its, r, ⟨⟨cls, dd, data, sl⟩, ho, hc, n, hd⟩, hs⟩ := I.tuple hT
    simp only at hc hd
    subst hc hd
    have c0 : (decide (k < -(2 ^ 63)) || decide (k ≥ 2 ^ 63)) = false := by
      rw [decide_eq_false (by omega), decide_eq_false (by omega)] <;> rfl
    have hem : its.toArray.isEmpty = xs.isEmpty := by cases r <;> rfl
    by_cases hsame : xs = [] ∨ k = 1
    · have c1 : (its.toArray.isEmpty || k == 1) = true := by
        rw [hem]
        rcases hsame with e | e <;> simp [e]
      refine wpAny_binaryOp_repeat_ref (T := "tuple") (U := "int") (by decide) ⟨_, ho, rfl⟩ (fun s' => typeIs_int s' k t) noFill_tuple_mul F.fills_int_mul F.slot_int_rmul repeat_tuple F.slot_int_index.lookup
        (call_meets F.slot_int_rmul (typeIs_int s k t) F.entry_int_rmul (F.args_int_rmul_2 _ _) (int_rmul_tuple k t l its.toArray n dd sl) ⟨ho, rfl, ⟨_, ho, rfl⟩, ?_⟩)
      exact call_meets F.slot_tuple_mul ⟨_, ho, rfl⟩ F.entry_tuple_mul (F.args_tuple_mul_2 _ _) (tmul_same l its.toArray n dd sl k t c0 c1) ⟨ho, ⟨.ref l, H, I, rfl, q1 hsame⟩⟩
    · have hne : xs ≠ [] := fun e => hsame (.inl e)
      have hk1 : k ≠ 1 := fun e => hsame (.inr e)
      have c1 : (its.toArray.isEmpty || k == 1) = false := by
        rw [hem]
        cases xs with
        | nil => exact absurd rfl hne
        | cons a b => simpa using hk1
      have hk0 : k ≤ 0 := by
        rcases Int.lt_or_le k 2 with z | z
        · omega
        · exact absurd ⟨hne, z⟩ hbig
      have c2 : (decide (k ≤ 0) || its.toArray.isEmpty) = true := by simp [hk0]
      refine wpAny_binaryOp_repeat_ref (T := "tuple") (U := "int") (by decide) ⟨_, ho, rfl⟩ (fun s' => typeIs_int s' k t) noFill_tuple_mul F.fills_int_mul F.slot_int_rmul repeat_tuple F.slot_int_index.lookup
        (call_meets F.slot_int_rmul (typeIs_int s k t) F.entry_int_rmul (F.args_int_rmul_2 _ _) (int_rmul_tuple k t l its.toArray n dd sl) ⟨ho, rfl, ⟨_, ho, rfl⟩, ?_⟩)
      refine call_meets F.slot_tuple_mul ⟨_, ho, rfl⟩ F.entry_tuple_mul (F.args_tuple_mul_2 _ _) (tmul_none l its.toArray n dd sl k t c0 c1 c2) ⟨ho, ?_⟩
      have e0 : (List.replicate k.toNat xs).flatten = [] := by
        have : k.toNat = 0 := by omega
        rw [this]; rfl
      refine ⟨.ref s.heap.objs.size, _, I.laid (t' := s.toks) (o := .tup []) (fun b ob q => Heap.get?_push_of_some _ q) (Nat.le_refl _) ?_, rfl, by have := q2 hne hk1 _ (I.hok.fresh (Nat.le_refl _)); rw [e0] at this; exact this⟩
      exact ⟨Nat.zero_le _, [], .nil, IsTup.new _ _⟩
end DD

/-! Operators over data. -/
namespace DD
open PySem L2
def big : Nat := 100000
theorem big_le {n : Nat} (h : n ≤ big) : n ≤ sizeLine := Nat.le_trans h (by rw [sizeLine_eq]; decide)
def fAdd : D2
  | .int i, .int j => some (.int (i + j))
  | .list xs, .list ys => if xs.length + ys.length ≤ big then some (.list (xs ++ ys)) else none
  | .tuple xs, .tuple ys => if xs.length + ys.length ≤ big then some (.tuple (xs ++ ys)) else none
  | _, _ => none
def fSub : D2 := dI2 fun i j => i - j
def mulOk (i j : Int) : Bool := (decide (-18446744073709551616 < i) && decide (i < 18446744073709551616)) || (decide (-18446744073709551616 < j) && decide (j < 18446744073709551616))
def fMul : D2
  | .int i, .int j => if mulOk i j = true then some (.int (i * j)) else none
  | .list xs, .int k => if decide (0 ≤ k) && decide (k ≤ 1000) && decide (xs.length ≤ 1000) then some (.list (List.replicate k.toNat xs).flatten) else none
  | .tuple xs, .int k => if decide (0 ≤ k) && decide (k ≤ 1000) && decide (xs.length ≤ 1000) then some (.tuple (List.replicate k.toNat xs).flatten) else none
  | _, _ => none
def fMod : D2 := dI2c (fun _ j => decide (0 < j)) fun i j => i % j
def fDiv : D2 := dI2c (fun _ j => decide (0 < j) && decide (j < 1073741824)) fun i j => i / j
/-- a number's size, that the machine asks of powers -/
def powOk (i j : Int) : Bool := decide (0 ≤ j) && decide ((Builtin.Int.intBits i : Int) * j ≤ 134217728)
def fPow : D2 := dI2c powOk fun i j => i ^ j.toNat
def fLt : D2 := dB2 fun i j => decide (i < j)
def fLe : D2 := dB2 fun i j => decide (i ≤ j)
def fGt : D2 := dB2 fun i j => decide (j < i)
def fGe : D2 := dB2 fun i j => decide (j ≤ i)
/-- == of data -/
def fEq : D2
  | .int i, .int j => some (.bool (decide (i = j)))
  | .str i, .str j => some (.bool (decide (i = j)))
  | d, e => if SeqAt.shaped d && SeqAt.shaped e then some (.bool (PyData.eqv d e)) else none
def fNe : D2
  | .int i, .int j => some (.bool (!decide (i = j)))
  | .str i, .str j => some (.bool (!decide (i = j)))
  | d, e => if SeqAt.shaped d && SeqAt.shaped e then some (.bool (!PyData.eqv d e)) else none
section
variable {K : Fg} {H : Hp} {W : List Addr}
theorem same_upd {p : Addr} {o : HO} (h : H p = none) : Same H (upd H p o) := fun b u e => by rw [upd_ne (ne_of_none e h)]; exact e
theorem r2_add : R2Ok K (fun x y H Q => rI0 (fun i j => .int (i + j)) x y H Q ∨ rCat x y H Q ∨ rCatA K x y H Q) fAdd := by
  intro H W x y d e z Q hx hy hz k fr
  unfold fAdd at hz
  split at hz
  · cases hz
    cases hx
    cases hy
    exact .inl ⟨_, _, rfl, rfl, k _ H (Same.refl H) fr (.int _)⟩
  · rename_i xs ys
    split at hz
    · rename_i hb
      cases hz
      cases hx with
      | lst n1 r1 q1 =>
        cases hy with
        | lst n2 r2 q2 =>
          have hl : ∀ {a b : Nat}, a + b ≤ big → a + b ≤ sizeLine := fun h => big_le h
          refine .inr (.inl ⟨_, _, _, _, rfl, rfl, r1, r2, hl (by rw [q1.length, q2.length]; exact hb), fun p hp => ?_⟩)
          exact k _ _ (same_upd hp) fr (Dw.newLst hp (fr p hp) (q1.append q2))
    · cases hz
  · rename_i xs ys
    split at hz
    · rename_i hb
      cases hz
      obtain ⟨a, rfl⟩ := hx.tupV
      obtain ⟨b, rfl⟩ := hy.tupV
      have hx0 := hx
      have hy0 := hy
      obtain ⟨us, h1, q1⟩ := hx.sqT
      obtain ⟨vs, h2, q2⟩ := hy.sqT
      refine .inr (.inr ⟨a, b, us, vs, rfl, rfl, h1, h2, big_le (by rw [q1.length, q2.length]; exact hb), fun e => ?_, fun n e => ?_, fun n1 n2 p hp => ?_⟩)
      · subst e
        have : xs = [] := by have := q1.length; simp at this; exact List.eq_nil_of_length_eq_zero this.symm
        subst this
        exact k _ H (Same.refl H) fr hy0
      · subst e
        have : ys = [] := by have := q2.length; simp at this; exact List.eq_nil_of_length_eq_zero this.symm
        subst this
        exact k _ H (Same.refl H) fr (by rw [List.append_nil]; exact hx0)
      · exact k _ _ (same_upd hp) fr (Dw.newTup hp (fr p hp) (q1.append q2))
    · cases hz
  · cases hz
theorem r2_mul : R2Ok K (fun x y H Q => rI CMul (fun i j => .int (i * j)) x y H Q ∨ rRep x y H Q ∨ rTMul K x y H Q) fMul := by
  intro H W x y d e z Q hx hy hz k fr
  unfold fMul at hz
  split at hz
  · split at hz
    · rename_i hb
      cases hz
      cases hx
      cases hy
      refine .inl ⟨_, _, rfl, rfl, ?_, k _ H (Same.refl H) fr (.int _)⟩
      unfold mulOk at hb
      simp only [Bool.or_eq_true, Bool.and_eq_true, decide_eq_true_eq] at hb
      exact hb
    · cases hz
  · split at hz
    · rename_i hb
      cases hz
      simp only [Bool.and_eq_true, decide_eq_true_eq] at hb
      obtain ⟨⟨h0, h1⟩, h2⟩ := hb
      cases hy
      cases hx with
      | lst n1 r1 q1 =>
        refine .inr (.inl ⟨_, _, _, rfl, rfl, r1, by omega, by omega, ?_, fun p hp => k _ _ (same_upd hp) fr (Dw.newLst hp (fr p hp) (q1.rep _))⟩)
        rw [sizeLine_eq, q1.length]
        exact Nat.le_trans (Nat.mul_le_mul h2 (Int.toNat_le.mpr h1)) (by decide)
    · cases hz
  · split at hz
    · rename_i xs kk hb
      cases hz
      simp only [Bool.and_eq_true, decide_eq_true_eq] at hb
      obtain ⟨⟨h0, h1⟩, h2⟩ := hb
      cases hy
      obtain ⟨a, rfl⟩ := hx.tupV
      have hx0 := hx
      obtain ⟨us, q0, q1⟩ := hx.sqT
      refine .inr (.inr ⟨a, _, us, rfl, rfl, q0, by omega, h1, by rw [q1.length]; exact h2, fun hs => ?_, fun _ _ p hp => k _ _ (same_upd hp) fr (Dw.newTup hp (fr p hp) (q1.rep _))⟩)
      have e : (List.replicate kk.toNat xs).flatten = xs := by
        rcases hs with e | e
        · subst e
          have : xs = [] := by have := q1.length; simp at this; exact List.eq_nil_of_length_eq_zero this.symm
          subst this
          generalize kk.toNat = n
          induction n with
          | zero => rfl
          | succ n ih => rw [List.replicate_succ, List.flatten_cons, ih]; rfl
        · subst e
          simp
      exact k _ H (Same.refl H) fr (by rw [e]; exact hx0)
    · cases hz
  · cases hz
theorem shaped_dict {d : PyData} (h : SeqAt.shaped d = true) : d.hasDict = false := PyData.hasDict_of_canLay d (SeqAt.canLay_of_shaped h)
end
section
variable {X : Cx}
/-- == over Dw -/
def rEqW (K : Fg) : R2 := fun x y H Q => ∃ W d e, Dw K H W x d ∧ Dw K H W y e ∧ SeqAt.shaped d = true ∧ SeqAt.shaped e = true ∧ Q (.bl (PyData.eqv d e)) H
def rNeW (K : Fg) : R2 := fun x y H Q => ∃ W d e, Dw K H W x d ∧ Dw K H W y e ∧ SeqAt.shaped d = true ∧ SeqAt.shaped e = true ∧ Q (.bl (!PyData.eqv d e)) H
theorem op_eqW (hu : X.A.units + 64 < cLine) : OpR X (compareOp .Eq) (rEqW X.K) := by
  intro pins s σ H x y v u Q I rx ry h
  obtain ⟨W, d, e, hd, he, sd, se, q⟩ := h
  obtain ⟨as, r1⟩ := Dw.reads I d x v (shaped_dict sd) hd rx
  obtain ⟨bs, r2⟩ := Dw.reads I e y u (shaped_dict se) he ry
  exact SeqAt.compareEq_shaped r1 r2 sd se hu ⟨.bl _, H, I, rfl, q⟩
theorem op_neW (hu : X.A.units + 64 < cLine) : OpR X (compareOp .NotEq) (rNeW X.K) := by
  intro pins s σ H x y v u Q I rx ry h
  obtain ⟨W, d, e, hd, he, sd, se, q⟩ := h
  obtain ⟨as, r1⟩ := Dw.reads I d x v (shaped_dict sd) hd rx
  obtain ⟨bs, r2⟩ := Dw.reads I e y u (shaped_dict se) he ry
  exact SeqAt.compareNe_shaped r1 r2 sd se hu ⟨.bl _, H, I, rfl, q⟩
theorem shaped_int (i : Int) : SeqAt.shaped (.int i) = true := by
  unfold SeqAt.shaped
  simp [PyData.canLay0, PyData.depth]
theorem eqv_int (i j : Int) : PyData.eqv (.int i) (.int j) = decide (i = j) := by
  simp only [PyData.eqv, Bool.beq_eq_decide_eq]
theorem r2_eq {K : Fg} : R2Ok K (fun x y H Q => rEq x y H Q ∨ rEqW K x y H Q) fEq := by
  intro H W x y d e z Q hx hy hz k fr
  unfold fEq at hz
  split at hz
  · cases hz
    refine .inr ⟨W, _, _, hx, hy, shaped_int _, shaped_int _, ?_⟩
    rw [eqv_int]
    exact k (.bl _) H (Same.refl H) fr (.bl _)
  · rename_i i j
    cases hz
    cases hx
    cases hy
    refine .inl ⟨rfl, ?_⟩
    have e : decide (V.str i = V.str j) = decide (i = j) := by simp
    rw [e]
    exact k (.bl _) H (Same.refl H) fr (.bl _)
  · split at hz
    · rename_i hs
      cases hz
      simp only [Bool.and_eq_true] at hs
      exact .inr ⟨W, _, _, hx, hy, hs.1, hs.2, k _ H (Same.refl H) fr (.bl _)⟩
    · cases hz
theorem r2_ne {K : Fg} : R2Ok K (fun x y H Q => rNe x y H Q ∨ rNeW K x y H Q) fNe := by
  intro H W x y d e z Q hx hy hz k fr
  unfold fNe at hz
  split at hz
  · cases hz
    refine .inr ⟨W, _, _, hx, hy, shaped_int _, shaped_int _, ?_⟩
    rw [eqv_int]
    exact k (.bl _) H (Same.refl H) fr (.bl _)
  · rename_i i j
    cases hz
    cases hx
    cases hy
    refine .inl ⟨rfl, ?_⟩
    have e : decide (V.str i = V.str j) = decide (i = j) := by simp
    rw [e]
    exact k (.bl _) H (Same.refl H) fr (.bl _)
  · split at hz
    · rename_i hs
      cases hz
      simp only [Bool.and_eq_true] at hs
      exact .inr ⟨W, _, _, hx, hy, hs.1, hs.2, k _ H (Same.refl H) fr (.bl _)⟩
    · cases hz
theorem op_powW : OpR X (binaryOp .Pow) (rI (fun i j => 0 ≤ j ∧ (Builtin.Int.intBits i : Int) * j ≤ 2 ^ 27) fun i j => .int (i ^ j.toNat)) := opI fun _ _ _ _ _ _ _ hc q => PyProof.Rows.pow_int hc.1 hc.2 q
/-! ### the rules as they are used -/
variable {EX : XK} {a b : Expr} {da db : DE} {pos : Pos}
theorem de_add (ha : DEx X EX a da) (hb : DEx X EX b db) : DEx X EX (.BinOp a .Add b pos) (dOp fAdd da db) := op_ok r2_add ha hb fun _ _ p q => pe_op (op_add.or (op_cat.or op_catA)) p q
theorem de_sub (ha : DEx X EX a da) (hb : DEx X EX b db) : DEx X EX (.BinOp a .Sub b pos) (dOp fSub da db) := op_ok r2_int ha hb fun _ _ p q => pe_op op_sub p q
theorem de_mul (ha : DEx X EX a da) (hb : DEx X EX b db) : DEx X EX (.BinOp a .Mult b pos) (dOp fMul da db) := op_ok r2_mul ha hb fun _ _ p q => pe_op (op_mul.or (op_rep.or op_tmul)) p q
theorem de_mod (ha : DEx X EX a da) (hb : DEx X EX b db) : DEx X EX (.BinOp a .Mod b pos) (dOp fMod da db) := op_ok (r2_intc fun _ _ h => of_decide_eq_true h) ha hb fun _ _ p q => pe_op op_mod p q
theorem de_div (ha : DEx X EX a da) (hb : DEx X EX b db) : DEx X EX (.BinOp a .FloorDiv b pos) (dOp fDiv da db) :=
  op_ok (r2_intc (C := CDiv) fun _ _ h => by simp only [Bool.and_eq_true, decide_eq_true_eq] at h; exact h) ha hb fun _ _ p q => pe_op op_fdiv p q
theorem de_pow (ha : DEx X EX a da) (hb : DEx X EX b db) : DEx X EX (.BinOp a .Pow b pos) (dOp fPow da db) :=
  op_ok (r2_intc fun _ _ h => by unfold powOk at h; simp only [Bool.and_eq_true, decide_eq_true_eq] at h; exact h) ha hb fun _ _ p q => pe_op op_powW p q
theorem de_lt (ha : DEx X EX a da) (hb : DEx X EX b db) : DEx X EX (.Compare a [.Lt] [b] pos) (dOp fLt da db) := op_ok r2_bool ha hb fun _ _ p q => pe_cmpR op_lt p q (nomark _)
theorem de_le (ha : DEx X EX a da) (hb : DEx X EX b db) : DEx X EX (.Compare a [.LtE] [b] pos) (dOp fLe da db) := op_ok r2_bool ha hb fun _ _ p q => pe_cmpR op_le p q (nomark _)
theorem de_gt (ha : DEx X EX a da) (hb : DEx X EX b db) : DEx X EX (.Compare a [.Gt] [b] pos) (dOp fGt da db) := op_ok r2_bool ha hb fun _ _ p q => pe_cmpR op_gt p q (nomark _)
theorem de_ge (ha : DEx X EX a da) (hb : DEx X EX b db) : DEx X EX (.Compare a [.GtE] [b] pos) (dOp fGe da db) := op_ok r2_bool ha hb fun _ _ p q => pe_cmpR op_ge p q (nomark _)
theorem de_eq (hu : X.A.units + 64 < cLine) (ha : DEx X EX a da) (hb : DEx X EX b db) : DEx X EX (.Compare a [.Eq] [b] pos) (dOp fEq da db) := op_ok r2_eq ha hb fun _ _ p q => pe_cmpR (op_eq.or (op_eqW hu)) p q (nomark _)
theorem de_ne (hu : X.A.units + 64 < cLine) (ha : DEx X EX a da) (hb : DEx X EX b db) : DEx X EX (.Compare a [.NotEq] [b] pos) (dOp fNe da db) := op_ok r2_ne ha hb fun _ _ p q => pe_cmpR (op_ne.or (op_neW hu)) p q (nomark _)
end
end DD

/-! Tests, subscripts, displays, calls of what is built in. -/
namespace DD
open PySem L2
section
variable {X : Cx} {EX : XK} {a b c e : Expr} {da db dc : DE} {pos : Pos}
/-! ### truth -/
def noTup : PyData → Bool
  | .tuple _ => false
  | _ => true
def truD : PyData → Option Bool
  | .none => some false
  | .bool k => some k
  | .int i => some (i != 0)
  | .str _ => none
  | .list xs => some (!xs.isEmpty)
  | .tuple xs => some (!xs.isEmpty)
  | .dict kvs => if (kvs.all fun p => noTup p.1) = true then some (!kvs.isEmpty) else none
theorem DwA.isEmpty {K : Fg} {H : Hp} {W : List Addr} {xs : List V} {ds : List PyData} (q : DwA K H W xs ds) : xs.isEmpty = ds.isEmpty := by cases q <;> rfl
theorem truV_of {K : Fg} {H : Hp} {W : List Addr} {v : V} {d : PyData} {k : Bool} (h : Dw K H W v d) (e : truD d = some k) : TruV K v H k := by
  cases h with
  | non => cases e; rfl
  | bl b => cases e; rfl
  | int i => cases e; rfl
  | str x => cases e
  | lst n r q => cases e; exact .inl ⟨_, SqL.of r, by rw [q.isEmpty]⟩
  | tup r q => cases e; exact .inr (.inl ⟨_, SqT.of r, by rw [q.isEmpty]⟩)
  | ktup kt q =>
    cases e
    obtain ⟨o, its, n, h1, h2, h3, h4, h5⟩ := kt
    exact .inr (.inl ⟨_, .inr ⟨o, its, n, h1, h2, h3, h4, h5⟩, by rw [q.isEmpty]⟩)
  | dcT n r e0 kk q =>
    rename_i kvs ds
    cases ds with
    | nil => exact absurd rfl e0
    | cons x t =>
      cases kvs with
      | nil => cases kk
      | cons y u =>
        rw [List.map_cons, List.map_cons, List.cons.injEq] at kk
        simp [truD, kk.1, noTup] at e
  | dct n r kk q =>
    rename_i kvs ds
    have e1 : k = !ds.isEmpty := by
      have e2 : (if (ds.all fun p => noTup p.1) = true then some (!ds.isEmpty) else none) = some k := e
      by_cases z : (ds.all fun p => noTup p.1) = true
      · rw [if_pos z] at e2; exact (Option.some.inj e2).symm
      · rw [if_neg z] at e2; cases e2
    subst e1
    refine .inr (.inr ⟨_, r, ?_⟩)
    have := q.length
    simp only [List.length_map] at this
    cases kvs with
    | nil => cases ds with
      | nil => rfl
      | cons a b => simp at this
    | cons a b => cases ds with
      | nil => simp at this
      | cons a b => rfl
def dTru (a : DE) : DT := fun ρ R Er => a ρ (fun d ρ1 => match truD d with
  | some k => R k ρ1
  | none => False) Er
theorem dt_tru (ha : DEx X EX a da) (he : ∀ whole, isTrue a X.env whole = (do let v ← whole; standAt a.pos; holding [v] (truthy v)) := by intro _; rfl) : DTx X EX a (dTru da) := by
  obtain ⟨t, p, q⟩ := ha.ex
  refine ⟨_, pt_truth p he, fun s H0 W0 W σ ρ H R Er Q S eo hd k => ?_⟩
  refine q s H0 W0 W σ ρ H _ Er _ S eo hd fun v d W1 ρ1 H1 hd1 s1 e1 S1 w1 => ?_
  split at hd1
  · rename_i kk hk
    exact ⟨kk, truV_of w1 hk, k kk W1 ρ1 H1 hd1 s1 e1 S1⟩
  · exact hd1.elim
/-! ### comparisons as tests -/
def dTOp (f : D2) (a b : DE) : DT := fun ρ R Er => a ρ (fun x ρ1 => b ρ1 (fun y ρ2 => match f x y with
  | some (.bool k) => R k ρ2
  | _ => False) Er) Er
theorem top_ok {r : R2} {f : D2} (hr : R2Ok X.K r f) (ha : DEx X EX a da) (hb : DEx X EX b db) (mk : ∀ ta tb, PE X a ta → PE X b tb → PT X e (tTest (tOp r ta tb))) : DTx X EX e (dTOp f da db) := by
  obtain ⟨ta, pa, qa⟩ := ha.ex
  obtain ⟨tb, pb, qb⟩ := hb.ex
  refine ⟨_, mk ta tb pa pb, fun s H0 W0 W σ ρ H R Er Q S eo hd k => ?_⟩
  refine qa s H0 W0 W σ ρ H _ Er _ S eo hd fun v d W1 ρ1 H1 hd1 s1 e1 S1 w1 => ?_
  refine qb s H0 W0 W1 σ ρ1 H1 _ Er _ S1 eo hd1 fun u e W2 ρ2 H2 hd2 s2 e2 S2 w2 => ?_
  have w1' : Dw X.K H2 W2 v d := w1.to e2 s2
  split at hd2
  · rename_i kk hz
    refine hr H2 W2 v u d e _ _ w1' w2 hz (fun y H3 sm _ w3 => ?_) fun p hp => S2.fresh hp
    cases w3
    exact ⟨kk, rfl, k kk W2 ρ2 H3 hd2 (sub_tr s2 s1) ((ext_tr e1 e2 s1).trans (Ext.same sm)) (S2.same sm)⟩
  · exact hd2.elim
theorem dt_lt (ha : DEx X EX a da) (hb : DEx X EX b db) : DTx X EX (.Compare a [.Lt] [b] pos) (dTOp fLt da db) := top_ok r2_bool ha hb fun _ _ p q => pt_cmpR op_lt p q (nomark _)
theorem dt_le (ha : DEx X EX a da) (hb : DEx X EX b db) : DTx X EX (.Compare a [.LtE] [b] pos) (dTOp fLe da db) := top_ok r2_bool ha hb fun _ _ p q => pt_cmpR op_le p q (nomark _)
theorem dt_gt (ha : DEx X EX a da) (hb : DEx X EX b db) : DTx X EX (.Compare a [.Gt] [b] pos) (dTOp fGt da db) := top_ok r2_bool ha hb fun _ _ p q => pt_cmpR op_gt p q (nomark _)
theorem dt_ge (ha : DEx X EX a da) (hb : DEx X EX b db) : DTx X EX (.Compare a [.GtE] [b] pos) (dTOp fGe da db) := top_ok r2_bool ha hb fun _ _ p q => pt_cmpR op_ge p q (nomark _)
theorem dt_eq (hu : X.A.units + 64 < cLine) (ha : DEx X EX a da) (hb : DEx X EX b db) : DTx X EX (.Compare a [.Eq] [b] pos) (dTOp fEq da db) := top_ok r2_eq ha hb fun _ _ p q => pt_cmpR (op_eq.or (op_eqW hu)) p q (nomark _)
theorem dt_ne (hu : X.A.units + 64 < cLine) (ha : DEx X EX a da) (hb : DEx X EX b db) : DTx X EX (.Compare a [.NotEq] [b] pos) (dTOp fNe da db) := top_ok r2_ne ha hb fun _ _ p q => pt_cmpR (op_ne.or (op_neW hu)) p q (nomark _)
/-! ### is -/
def fIsB : D2
  | .bool i, .bool j => some (.bool (decide (i = j)))
  | _, _ => none
def fNotB : D2
  | .bool i, .bool j => some (.bool (!decide (i = j)))
  | _, _ => none
theorem r2_isB {K : Fg} : R2Ok K rIsB fIsB := by
  intro H W x y d e z Q hx hy hz k fr
  unfold fIsB at hz
  split at hz
  · cases hz
    cases hx
    cases hy
    exact ⟨_, _, rfl, rfl, k _ H (Same.refl H) fr (.bl _)⟩
  · cases hz
theorem r2_notB {K : Fg} : R2Ok K rNotB fNotB := by
  intro H W x y d e z Q hx hy hz k fr
  unfold fNotB at hz
  split at hz
  · cases hz
    cases hx
    cases hy
    exact ⟨_, _, rfl, rfl, k _ H (Same.refl H) fr (.bl _)⟩
  · cases hz
theorem de_isB (ha : DEx X EX a da) (hb : DEx X EX b db) : DEx X EX (.Compare a [.Is] [b] pos) (dOp fIsB da db) := op_ok r2_isB ha hb fun _ _ p q => pe_cmpR op_isBl p q (nomark _)
theorem de_notB (ha : DEx X EX a da) (hb : DEx X EX b db) : DEx X EX (.Compare a [.IsNot] [b] pos) (dOp fNotB da db) := op_ok r2_notB ha hb fun _ _ p q => pe_cmpR op_notBl p q (nomark _)
theorem dt_isB (ha : DEx X EX a da) (hb : DEx X EX b db) : DTx X EX (.Compare a [.Is] [b] pos) (dTOp fIsB da db) := top_ok r2_isB ha hb fun _ _ p q => pt_cmpR op_isBl p q (nomark _)
theorem dt_notB (ha : DEx X EX a da) (hb : DEx X EX b db) : DTx X EX (.Compare a [.IsNot] [b] pos) (dTOp fNotB da db) := top_ok r2_notB ha hb fun _ _ p q => pt_cmpR op_notBl p q (nomark _)
def isNonD : PyData → Bool
  | .none => true
  | _ => false
theorem non_iff {K : Fg} {H : Hp} {W : List Addr} {v : V} {d : PyData} (h : Dw K H W v d) : decide (v = .non) = isNonD d := by
  cases h <;> simp [isNonD]
def dIsN (a : DE) : DE := fun ρ R Er => a ρ (fun d ρ1 => R (.bool (isNonD d)) ρ1) Er
def dNotN (a : DE) : DE := fun ρ R Er => a ρ (fun d ρ1 => R (.bool (!isNonD d)) ρ1) Er
def dTIsN (a : DE) : DT := fun ρ R Er => a ρ (fun d ρ1 => R (isNonD d) ρ1) Er
def dTNotN (a : DE) : DT := fun ρ R Er => a ρ (fun d ρ1 => R (!isNonD d) ρ1) Er
theorem de_isN {j pos'} (ha : DEx X EX a da) : DEx X EX (.Compare a [.Is] [.Constant .none j pos'] pos) (dIsN da) := by
  obtain ⟨t, p, q⟩ := ha.ex
  refine ⟨_, pe_cmp (pc_isN p) rfl, fun s H0 W0 W σ ρ H R Er Q S eo hd k => ?_⟩
  refine q s H0 W0 W σ ρ H _ Er _ S eo hd fun v d W1 ρ1 H1 hd1 s1 e1 S1 w1 => ?_
  rw [non_iff w1]
  exact k _ _ W1 ρ1 H1 hd1 s1 e1 S1 (.bl _)
theorem de_notN {j pos'} (ha : DEx X EX a da) : DEx X EX (.Compare a [.IsNot] [.Constant .none j pos'] pos) (dNotN da) := by
  obtain ⟨t, p, q⟩ := ha.ex
  refine ⟨_, pe_cmp (pc_notN p) rfl, fun s H0 W0 W σ ρ H R Er Q S eo hd k => ?_⟩
  refine q s H0 W0 W σ ρ H _ Er _ S eo hd fun v d W1 ρ1 H1 hd1 s1 e1 S1 w1 => ?_
  rw [non_iff w1]
  exact k _ _ W1 ρ1 H1 hd1 s1 e1 S1 (.bl _)
theorem dt_isN {j pos'} (ha : DEx X EX a da) : DTx X EX (.Compare a [.Is] [.Constant .none j pos'] pos) (dTIsN da) := by
  obtain ⟨t, p, q⟩ := ha.ex
  refine ⟨_, pt_cmp (pc_isN p) rfl, fun s H0 W0 W σ ρ H R Er Q S eo hd k => ?_⟩
  refine q s H0 W0 W σ ρ H _ Er _ S eo hd fun v d W1 ρ1 H1 hd1 s1 e1 S1 w1 => ⟨_, rfl, ?_⟩
  rw [non_iff w1]
  exact k _ W1 ρ1 H1 hd1 s1 e1 S1
theorem dt_notN {j pos'} (ha : DEx X EX a da) : DTx X EX (.Compare a [.IsNot] [.Constant .none j pos'] pos) (dTNotN da) := by
  obtain ⟨t, p, q⟩ := ha.ex
  refine ⟨_, pt_cmp (pc_notN p) rfl, fun s H0 W0 W σ ρ H R Er Q S eo hd k => ?_⟩
  refine q s H0 W0 W σ ρ H _ Er _ S eo hd fun v d W1 ρ1 H1 hd1 s1 e1 S1 w1 => ⟨_, rfl, ?_⟩
  rw [non_iff w1]
  exact k _ W1 ρ1 H1 hd1 s1 e1 S1
/-! ### and, or, not, if -/
def dTAnd (a b : DT) : DT := fun ρ R Er => a ρ (fun k ρ1 => match k with | true => b ρ1 R Er | false => R false ρ1) Er
def dTOr (a b : DT) : DT := fun ρ R Er => a ρ (fun k ρ1 => match k with | true => R true ρ1 | false => b ρ1 R Er) Er
def dTNot (a : DT) : DT := fun ρ R Er => a ρ (fun k ρ1 => R (!k) ρ1) Er
def dAnd (a b : DE) : DE := fun ρ R Er => a ρ (fun d ρ1 => match d with | .bool true => b ρ1 R Er | .bool false => R (.bool false) ρ1 | _ => False) Er
def dOr (a b : DE) : DE := fun ρ R Er => a ρ (fun d ρ1 => match d with | .bool false => b ρ1 R Er | .bool true => R (.bool true) ρ1 | _ => False) Er
def dNot (a : DE) : DE := fun ρ R Er => a ρ (fun d ρ1 => match d with | .bool k => R (.bool (!k)) ρ1 | _ => False) Er
def dIf (c : DT) (a b : DE) : DE := fun ρ R Er => c ρ (fun k ρ1 => match k with | true => a ρ1 R Er | false => b ρ1 R Er) Er
variable {ta tb : DT} {rest : List Expr}
theorem dw_and1 (ha : DTx X EX a ta) : DWx X EX (.BoolOp .And [a] pos) ta := by
  obtain ⟨t, p, q⟩ := ha.ex
  exact ⟨t, pw_and1 p, q⟩
theorem dw_or1 (ha : DTx X EX a ta) : DWx X EX (.BoolOp .Or [a] pos) ta := by
  obtain ⟨t, p, q⟩ := ha.ex
  exact ⟨t, pw_or1 p, q⟩
theorem dw_and (ha : DTx X EX a ta) (hb : DWx X EX (.BoolOp .And (b :: rest) pos) tb) : DWx X EX (.BoolOp .And (a :: b :: rest) pos) (dTAnd ta tb) := by
  obtain ⟨t, p, q⟩ := ha.ex
  obtain ⟨t2, p2, q2⟩ := hb.ex
  refine ⟨_, pw_and p p2, fun s H0 W0 W σ ρ H R Er Q S eo hd k => ?_⟩
  refine q s H0 W0 W σ ρ H _ Er _ S eo hd fun b W1 ρ1 H1 hd1 s1 e1 S1 => ?_
  cases b with
  | true => exact iteT (q2 s H0 W0 W1 σ ρ1 H1 R Er Q S1 eo hd1 fun b W2 ρ2 H2 hd2 s2 e2 S2 => k b W2 ρ2 H2 hd2 (sub_tr s2 s1) (ext_tr e1 e2 s1) S2)
  | false => exact iteF (k false W1 ρ1 H1 hd1 s1 e1 S1)
theorem dw_or (ha : DTx X EX a ta) (hb : DWx X EX (.BoolOp .Or (b :: rest) pos) tb) : DWx X EX (.BoolOp .Or (a :: b :: rest) pos) (dTOr ta tb) := by
  obtain ⟨t, p, q⟩ := ha.ex
  obtain ⟨t2, p2, q2⟩ := hb.ex
  refine ⟨_, pw_or p p2, fun s H0 W0 W σ ρ H R Er Q S eo hd k => ?_⟩
  refine q s H0 W0 W σ ρ H _ Er _ S eo hd fun b W1 ρ1 H1 hd1 s1 e1 S1 => ?_
  cases b with
  | false => exact iteF (q2 s H0 W0 W1 σ ρ1 H1 R Er Q S1 eo hd1 fun b W2 ρ2 H2 hd2 s2 e2 S2 => k b W2 ρ2 H2 hd2 (sub_tr s2 s1) (ext_tr e1 e2 s1) S2)
  | true => exact iteT (k true W1 ρ1 H1 hd1 s1 e1 S1)
theorem dt_not (ha : DTx X EX a ta) : DTx X EX (.UnaryOp .Not a pos) (dTNot ta) := by
  obtain ⟨t, p, q⟩ := ha.ex
  refine ⟨_, pt_not p, fun s H0 W0 W σ ρ H R Er Q S eo hd k => ?_⟩
  exact q s H0 W0 W σ ρ H _ Er _ S eo hd fun b W1 ρ1 H1 hd1 s1 e1 S1 => k _ W1 ρ1 H1 hd1 s1 e1 S1
theorem de_one {op} (ha : DEx X EX a da) : DEx X EX (.BoolOp op [a] pos) da := by
  obtain ⟨t, p, q⟩ := ha.ex
  exact ⟨t, pe_one p, q⟩
theorem de_and (ha : DEx X EX a da) (hb : DEx X EX (.BoolOp .And (b :: rest) pos) db) : DEx X EX (.BoolOp .And (a :: b :: rest) pos) (dAnd da db) := by
  obtain ⟨t, p, q⟩ := ha.ex
  obtain ⟨t2, p2, q2⟩ := hb.ex
  refine ⟨_, pe_and p p2, fun s H0 W0 W σ ρ H R Er Q S eo hd k => ?_⟩
  refine q s H0 W0 W σ ρ H _ Er _ S eo hd fun v d W1 ρ1 H1 hd1 s1 e1 S1 w1 => ?_
  split at hd1
  · cases w1
    exact ⟨true, rfl, iteT (q2 s H0 W0 W1 σ ρ1 H1 R Er Q S1 eo hd1 fun v b W2 ρ2 H2 hd2 s2 e2 S2 w2 => k v b W2 ρ2 H2 hd2 (sub_tr s2 s1) (ext_tr e1 e2 s1) S2 w2)⟩
  · cases w1
    exact ⟨false, rfl, iteF (k _ _ W1 ρ1 H1 hd1 s1 e1 S1 (.bl false))⟩
  · exact hd1.elim
theorem de_or (ha : DEx X EX a da) (hb : DEx X EX (.BoolOp .Or (b :: rest) pos) db) : DEx X EX (.BoolOp .Or (a :: b :: rest) pos) (dOr da db) := by
  obtain ⟨t, p, q⟩ := ha.ex
  obtain ⟨t2, p2, q2⟩ := hb.ex
  refine ⟨_, pe_or p p2, fun s H0 W0 W σ ρ H R Er Q S eo hd k => ?_⟩
  refine q s H0 W0 W σ ρ H _ Er _ S eo hd fun v d W1 ρ1 H1 hd1 s1 e1 S1 w1 => ?_
  split at hd1
  · cases w1
    exact ⟨false, rfl, iteF (q2 s H0 W0 W1 σ ρ1 H1 R Er Q S1 eo hd1 fun v b W2 ρ2 H2 hd2 s2 e2 S2 w2 => k v b W2 ρ2 H2 hd2 (sub_tr s2 s1) (ext_tr e1 e2 s1) S2 w2)⟩
  · cases w1
    exact ⟨true, rfl, iteT (k _ _ W1 ρ1 H1 hd1 s1 e1 S1 (.bl true))⟩
  · exact hd1.elim
theorem de_not (ha : DEx X EX a da) : DEx X EX (.UnaryOp .Not a pos) (dNot da) := by
  obtain ⟨t, p, q⟩ := ha.ex
  refine ⟨_, pe_not p, fun s H0 W0 W σ ρ H R Er Q S eo hd k => ?_⟩
  refine q s H0 W0 W σ ρ H _ Er _ S eo hd fun v d W1 ρ1 H1 hd1 s1 e1 S1 w1 => ?_
  split at hd1
  · cases w1
    exact ⟨_, rfl, k _ _ W1 ρ1 H1 hd1 s1 e1 S1 (.bl _)⟩
  · exact hd1.elim
theorem de_if (hc : DTx X EX c ta) (ha : DEx X EX a da) (hb : DEx X EX b db) : DEx X EX (.IfExp c a b pos) (dIf ta da db) := by
  obtain ⟨t, p, q⟩ := hc.ex
  obtain ⟨t1, p1, q1⟩ := ha.ex
  obtain ⟨t2, p2, q2⟩ := hb.ex
  refine ⟨_, pe_ifExp p p1 p2, fun s H0 W0 W σ ρ H R Er Q S eo hd k => ?_⟩
  refine q s H0 W0 W σ ρ H _ Er _ S eo hd fun b W1 ρ1 H1 hd1 s1 e1 S1 => ?_
  cases b with
  | true => exact iteT (q1 s H0 W0 W1 σ ρ1 H1 R Er Q S1 eo hd1 fun v b W2 ρ2 H2 hd2 s2 e2 S2 w2 => k v b W2 ρ2 H2 hd2 (sub_tr s2 s1) (ext_tr e1 e2 s1) S2 w2)
  | false => exact iteF (q2 s H0 W0 W1 σ ρ1 H1 R Er Q S1 eo hd1 fun v b W2 ρ2 H2 hd2 s2 e2 S2 w2 => k v b W2 ρ2 H2 hd2 (sub_tr s2 s1) (ext_tr e1 e2 s1) S2 w2)
/-! ### a < b < c of ints -/
def dChain (f g : D2) (a b c : DE) : DE := fun ρ R Er => a ρ (fun x ρ1 => b ρ1 (fun y ρ2 => match f x y with
  | some (.bool true) => c ρ2 (fun z ρ3 => match g y z with
    | some r => R r ρ3
    | none => False) Er
  | some (.bool false) => R (.bool false) ρ2
  | _ => False) Er) Er
def dTChain (f g : D2) (a b c : DE) : DT := fun ρ R Er => a ρ (fun x ρ1 => b ρ1 (fun y ρ2 => match f x y with
  | some (.bool true) => c ρ2 (fun z ρ3 => match g y z with
    | some (.bool k) => R k ρ3
    | _ => False) Er
  | some (.bool false) => R false ρ2
  | _ => False) Er) Er
theorem chain_ok {r r' : R2} {f g : D2} (hr : R2Ok X.K r f) (hr' : R2Ok X.K r' g) (ha : DEx X EX a da) (hb : DEx X EX b db) (hc : DEx X EX c dc) (mk : ∀ ta tb tc, PE X a ta → PE X b tb → PE X c tc → PE X e (tChain r r' ta tb tc)) : DEx X EX e (dChain f g da db dc) := by
  obtain ⟨ta, pa, qa⟩ := ha.ex
  obtain ⟨tb, pb, qb⟩ := hb.ex
  obtain ⟨tc, pc, qc⟩ := hc.ex
  refine ⟨_, mk ta tb tc pa pb pc, fun s H0 W0 W σ ρ H R Er Q S eo hd k => ?_⟩
  refine qa s H0 W0 W σ ρ H _ Er _ S eo hd fun v d W1 ρ1 H1 hd1 s1 e1 S1 w1 => ?_
  refine qb s H0 W0 W1 σ ρ1 H1 _ Er _ S1 eo hd1 fun u e W2 ρ2 H2 hd2 s2 e2 S2 w2 => ?_
  have w1' : Dw X.K H2 W2 v d := w1.to e2 s2
  split at hd2
  · rename_i hz
    refine hr H2 W2 v u d e _ _ w1' w2 hz (fun y H3 sm _ w3 => ?_) fun p hp => S2.fresh hp
    cases w3
    refine ⟨true, rfl, iteT ?_⟩
    refine qc s H0 W0 W2 σ ρ2 H3 _ Er _ (S2.same sm) eo hd2 fun x z W4 ρ4 H4 hd4 s4 e4 S4 w4 => ?_
    have w2' : Dw X.K H4 W4 u e := (w2.to (Ext.same sm) fun _ z => z).to e4 s4
    split at hd4
    · rename_i rr hrr
      exact hr' H4 W4 u x e z rr Q w2' w4 hrr (fun y H5 sm5 _ w5 => k y rr W4 ρ4 H5 hd4 (sub_tr s4 (sub_tr s2 s1)) ((ext_tr ((ext_tr e1 e2 s1).trans (Ext.same sm)) e4 (sub_tr s2 s1)).trans (Ext.same sm5)) (S4.same sm5) w5) fun p hp => S4.fresh hp
    · exact hd4.elim
  · rename_i hz
    refine hr H2 W2 v u d e _ _ w1' w2 hz (fun y H3 sm _ w3 => ?_) fun p hp => S2.fresh hp
    cases w3
    exact ⟨false, rfl, iteF (k _ _ W2 ρ2 H3 hd2 (sub_tr s2 s1) ((ext_tr e1 e2 s1).trans (Ext.same sm)) (S2.same sm) (.bl false))⟩
  · exact hd2.elim
theorem tchain_ok {r r' : R2} {f g : D2} (hr : R2Ok X.K r f) (hr' : R2Ok X.K r' g) (ha : DEx X EX a da) (hb : DEx X EX b db) (hc : DEx X EX c dc) (mk : ∀ ta tb tc, PE X a ta → PE X b tb → PE X c tc → PT X e (tTest (tChain r r' ta tb tc))) : DTx X EX e (dTChain f g da db dc) := by
  obtain ⟨ta, pa, qa⟩ := ha.ex
  obtain ⟨tb, pb, qb⟩ := hb.ex
  obtain ⟨tc, pc, qc⟩ := hc.ex
  refine ⟨_, mk ta tb tc pa pb pc, fun s H0 W0 W σ ρ H R Er Q S eo hd k => ?_⟩
  refine qa s H0 W0 W σ ρ H _ Er _ S eo hd fun v d W1 ρ1 H1 hd1 s1 e1 S1 w1 => ?_
  refine qb s H0 W0 W1 σ ρ1 H1 _ Er _ S1 eo hd1 fun u e W2 ρ2 H2 hd2 s2 e2 S2 w2 => ?_
  have w1' : Dw X.K H2 W2 v d := w1.to e2 s2
  split at hd2
  · rename_i hz
    refine hr H2 W2 v u d e _ _ w1' w2 hz (fun y H3 sm _ w3 => ?_) fun p hp => S2.fresh hp
    cases w3
    refine ⟨true, rfl, iteT ?_⟩
    refine qc s H0 W0 W2 σ ρ2 H3 _ Er _ (S2.same sm) eo hd2 fun x z W4 ρ4 H4 hd4 s4 e4 S4 w4 => ?_
    have w2' : Dw X.K H4 W4 u e := (w2.to (Ext.same sm) fun _ z => z).to e4 s4
    split at hd4
    · rename_i kk hrr
      refine hr' H4 W4 u x e z _ _ w2' w4 hrr (fun y H5 sm5 _ w5 => ?_) fun p hp => S4.fresh hp
      cases w5
      exact ⟨kk, rfl, k kk W4 ρ4 H5 hd4 (sub_tr s4 (sub_tr s2 s1)) ((ext_tr ((ext_tr e1 e2 s1).trans (Ext.same sm)) e4 (sub_tr s2 s1)).trans (Ext.same sm5)) (S4.same sm5)⟩
    · exact hd4.elim
  · rename_i hz
    refine hr H2 W2 v u d e _ _ w1' w2 hz (fun y H3 sm _ w3 => ?_) fun p hp => S2.fresh hp
    cases w3
    exact ⟨false, rfl, iteF ⟨false, rfl, k _ W2 ρ2 H3 hd2 (sub_tr s2 s1) ((ext_tr e1 e2 s1).trans (Ext.same sm)) (S2.same sm)⟩⟩
  · exact hd2.elim
theorem de_lele (ha : DEx X EX a da) (hb : DEx X EX b db) (hc : DEx X EX c dc) (hm : lastMarks [CmpOp.LtE, CmpOp.LtE] [b, c] = false := by with_unfolding_all rfl) : DEx X EX (.Compare a [.LtE, .LtE] [b, c] pos) (dChain fLe fLe da db dc) := chain_ok r2_bool r2_bool ha hb hc fun _ _ _ p q r => pe_chain op_le op_le p q r hm
theorem dt_lele (ha : DEx X EX a da) (hb : DEx X EX b db) (hc : DEx X EX c dc) (hm : lastMarks [CmpOp.LtE, CmpOp.LtE] [b, c] = false := by with_unfolding_all rfl) : DTx X EX (.Compare a [.LtE, .LtE] [b, c] pos) (dTChain fLe fLe da db dc) := tchain_ok r2_bool r2_bool ha hb hc fun _ _ _ p q r => pt_chain op_le op_le p q r hm
end
end DD

/-! Subscripts, slices, displays, calls of what is built in. -/
namespace DD
open PySem L2
section
variable {X : Cx} {EX : XK} {a b c e : Expr} {da db dc : DE} {pos : Pos}
/-! ### subscripts -/
def fIx : D2
  | .list xs, .int i => atI xs i
  | .tuple xs, .int i => atI xs i
  | _, _ => none
theorem atI_dw {K : Fg} {H : Hp} {W : List Addr} {xs : List V} {ds : List PyData} {i : Int} {d : PyData} (q : DwA K H W xs ds) (h : atI ds i = some d) : ∃ v, atI xs i = some v ∧ Dw K H W v d := by
  unfold atI at h ⊢
  rw [q.length]
  cases e : ixN ds.length i with
  | none => rw [e] at h; cases h
  | some j =>
    rw [e] at h
    obtain ⟨v, h1, h2⟩ := q.get (show ds[j]? = some d from h)
    exact ⟨v, h1, h2⟩
theorem r2_ix {K : Fg} : R2Ok K (rIx K) fIx := by
  intro H W x y d e z Q hx hy hz k fr
  unfold fIx at hz
  split at hz
  · obtain ⟨a, rfl⟩ := hx.lstV
    obtain ⟨xs, h1, q⟩ := hx.sqL
    cases hy
    obtain ⟨v, h2, h3⟩ := atI_dw q hz
    exact .inl ⟨a, xs, _, v, rfl, rfl, h1, h2, k v H (Same.refl H) fr h3⟩
  · obtain ⟨a, rfl⟩ := hx.tupV
    obtain ⟨xs, h1, q⟩ := hx.sqT
    cases hy
    obtain ⟨v, h2, h3⟩ := atI_dw q hz
    exact .inr (.inl ⟨a, xs, _, v, rfl, rfl, h1, h2, k v H (Same.refl H) fr h3⟩)
  · cases hz
theorem de_ix (ha : DEx X EX a da) (hb : DEx X EX b db) (hs : PlainIx b := by exact fun _ _ => rfl) : DEx X EX (.Subscript a b pos) (dOp fIx da db) := op_ok r2_ix ha hb fun _ _ p q => pe_ix ix_seq p q hs
/-! ### slices -/
abbrev DP := Env' → (Option Int → Env' → Prop) → Er' → Prop
structure DPx (X : Cx) (EX : XK) (e : Option Expr) (dt : DP) : Prop where
  ex : ∃ t, PO X e t ∧ ∀ (s : Sc) (H0 : Hp) (W0 W : List Addr) (σ : St) (ρ : Env') (H : Hp) (R : Option Int → Env' → Prop) (Er : Er') (Q : Option Int → Hp → Prop), SOk X.K H0 W0 s W σ ρ H → ErOk X.K H0 W0 s EX Er → dt ρ R Er →
    (∀ (o : Option Int) (W' : List Addr) (ρ' : Env') (H' : Hp), R o ρ' → (∀ x ∈ W', x ∈ W) → Ext W H H' → SOk X.K H0 W0 s W' σ ρ' H' → Q o H') → t σ H Q
def dNoPart : DP := fun ρ R _ => R none ρ
def dPart (a : DE) : DP := fun ρ R Er => a ρ (fun d ρ1 => match d with | .int i => R (some i) ρ1 | _ => False) Er
theorem dp_none : DPx X EX none dNoPart := ⟨_, po_none, fun s H0 W0 W σ ρ H R Er Q S eo hd k => k none W ρ H hd (fun _ z => z) (Ext.refl _ _) S⟩
theorem dp_some (ha : DEx X EX a da) : DPx X EX (some a) (dPart da) := by
  obtain ⟨t, p, q⟩ := ha.ex
  refine ⟨_, po_some p, fun s H0 W0 W σ ρ H R Er Q S eo hd k => ?_⟩
  refine q s H0 W0 W σ ρ H _ Er _ S eo hd fun v d W1 ρ1 H1 hd1 s1 e1 S1 w1 => ?_
  split at hd1
  · cases w1
    exact ⟨_, rfl, k _ W1 ρ1 H1 hd1 s1 e1 S1⟩
  · exact hd1.elim
def cutD (xs : List PyData) (lo hi : Option Int) : List PyData := (xs.drop (HT.sIx xs.length 0 lo)).take (HT.sIx xs.length xs.length hi - HT.sIx xs.length 0 lo)
theorem cut_dw {K : Fg} {H : Hp} {W : List Addr} {xs : List V} {ds : List PyData} (q : DwA K H W xs ds) (lo hi : Option Int) : DwA K H W (cutV xs lo hi) (cutD ds lo hi) := by
  unfold cutV cutD
  rw [q.length]
  exact (q.drop _).take _
theorem cut_whole {xs : List PyData} {lo hi : Option Int} (h : HT.sIx xs.length 0 lo = 0 ∧ HT.sIx xs.length xs.length hi = xs.length) : cutD xs lo hi = xs := by
  unfold cutD
  rw [h.1, h.2]
  simp
def fSl (d : PyData) (lo hi : Option Int) : Option PyData :=
  match d with
  | .list xs => some (.list (cutD xs lo hi))
  | .tuple xs => some (.tuple (cutD xs lo hi))
  | _ => none
def dSl (a : DE) (l u : DP) : DE := fun ρ R Er => a ρ (fun d ρ1 => l ρ1 (fun lo ρ2 => u ρ2 (fun hi ρ3 => match fSl d lo hi with
  | some z => R z ρ3
  | none => False) Er) Er) Er
theorem de_sl {lo hi : Option Expr} {dl dh : DP} {p2} (ha : DEx X EX a da) (hl : DPx X EX lo dl) (hh : DPx X EX hi dh) : DEx X EX (.Subscript a (.Slice lo hi none p2) pos) (dSl da dl dh) := by
  obtain ⟨t, p, q⟩ := ha.ex
  obtain ⟨tl, pl, ql⟩ := hl.ex
  obtain ⟨th, ph, qh⟩ := hh.ex
  refine ⟨_, pe_slice (sl_list.or sl_tupA) p pl ph, fun s H0 W0 W σ ρ H R Er Q S eo hd k => ?_⟩
  refine q s H0 W0 W σ ρ H _ Er _ S eo hd fun v d W1 ρ1 H1 hd1 s1 e1 S1 w1 => ?_
  refine ql s H0 W0 W1 σ ρ1 H1 _ Er _ S1 eo hd1 fun l W2 ρ2 H2 hd2 s2 e2 S2 => ?_
  refine qh s H0 W0 W2 σ ρ2 H2 _ Er _ S2 eo hd2 fun u W3 ρ3 H3 hd3 s3 e3 S3 => ?_
  have w3 : Dw X.K H3 W3 v d := (w1.to e2 s2).to e3 s3
  have ss := sub_tr s3 (sub_tr s2 s1)
  have ee := ext_tr (ext_tr e1 e2 s1) e3 (sub_tr s2 s1)
  unfold fSl at hd3
  cases d with
  | list xs =>
    obtain ⟨a, rfl⟩ := w3.lstV
    obtain ⟨us, h1, q1⟩ := w3.sqL
    exact .inl ⟨a, us, rfl, h1, fun p hp => k _ _ W3 ρ3 _ hd3 ss (ee.trans (Ext.same (same_upd hp))) (S3.alloc hp) (Dw.newLst hp (S3.fresh hp) (cut_dw q1 l u))⟩
  | tuple xs =>
    obtain ⟨a, rfl⟩ := w3.tupV
    have w0 := w3
    obtain ⟨us, h1, q1⟩ := w3.sqT
    refine .inr ⟨a, us, rfl, h1, fun hw => ?_, fun _ p hp => k _ _ W3 ρ3 _ hd3 ss (ee.trans (Ext.same (same_upd hp))) (S3.alloc hp) (Dw.newTup hp (S3.fresh hp) (cut_dw q1 l u))⟩
    rw [q1.length] at hw
    exact k _ _ W3 ρ3 H3 hd3 ss ee S3 (by rw [cut_whole hw]; exact w0)
  | _ => exact hd3.elim
/-! ### argument lists, displays -/
def dNil : DA := fun ρ R _ => R [] ρ
def dCons (a : DE) (r : DA) : DA := fun ρ R Er => a ρ (fun d ρ1 => r ρ1 (fun ds ρ2 => R (d :: ds) ρ2) Er) Er
theorem da_nil : DAx X EX [] dNil := ⟨_, pa_nil, fun s H0 W0 W σ ρ H R Er Q S eo hd k => k [] [] W ρ H hd (fun _ z => z) (Ext.refl _ _) S .nil⟩
theorem da_cons {es : List Expr} {dr : DA} (ha : DEx X EX a da) (hr : DAx X EX es dr) (hs : starEach (a :: es) X.env = (false, eval a X.env) :: starEach es X.env := by rfl) : DAx X EX (a :: es) (dCons da dr) := by
  obtain ⟨t, p, q⟩ := ha.ex
  obtain ⟨t2, p2, q2⟩ := hr.ex
  refine ⟨_, pa_cons p p2 hs, fun s H0 W0 W σ ρ H R Er Q S eo hd k => ?_⟩
  refine q s H0 W0 W σ ρ H _ Er _ S eo hd fun v d W1 ρ1 H1 hd1 s1 e1 S1 w1 => ?_
  refine q2 s H0 W0 W1 σ ρ1 H1 _ Er _ S1 eo hd1 fun vs ds W2 ρ2 H2 hd2 s2 e2 S2 w2 => ?_
  exact k _ _ W2 ρ2 H2 hd2 (sub_tr s2 s1) (ext_tr e1 e2 s1) S2 (.cons (w1.to e2 s2) w2)
def dTup (r : DA) : DE := fun ρ R Er => r ρ (fun ds ρ1 => ds.length ≤ big ∧ R (.tuple ds) ρ1) Er
def dLst (r : DA) : DE := fun ρ R Er => r ρ (fun ds ρ1 => ds.length ≤ big ∧ R (.list ds) ρ1) Er
theorem de_tup {es : List Expr} {dr : DA} {x1} (hr : DAx X EX es dr) : DEx X EX (.Tuple es x1 pos) (dTup dr) := by
  obtain ⟨t, p, q⟩ := hr.ex
  refine ⟨_, pe_tup p, fun s H0 W0 W σ ρ H R Er Q S eo hd k => ?_⟩
  refine q s H0 W0 W σ ρ H _ Er _ S eo hd fun vs ds W1 ρ1 H1 hd1 s1 e1 S1 w1 => ⟨big_le (by rw [w1.length]; exact hd1.1), fun p hp => ?_⟩
  exact k _ _ W1 ρ1 _ hd1.2 s1 (e1.trans (Ext.same (same_upd hp))) (S1.alloc hp) (Dw.newTup hp (S1.fresh hp) w1)
theorem de_lst {es : List Expr} {dr : DA} (hr : DAx X EX es dr) : DEx X EX (.List es pos) (dLst dr) := by
  obtain ⟨t, p, q⟩ := hr.ex
  refine ⟨_, pe_lst p, fun s H0 W0 W σ ρ H R Er Q S eo hd k => ?_⟩
  refine q s H0 W0 W σ ρ H _ Er _ S eo hd fun vs ds W1 ρ1 H1 hd1 s1 e1 S1 w1 => ⟨big_le (by rw [w1.length]; exact hd1.1), fun p hp => ?_⟩
  exact k _ _ W1 ρ1 _ hd1.2 s1 (e1.trans (Ext.same (same_upd hp))) (S1.alloc hp) (Dw.newLst hp (S1.fresh hp) w1)
/-- {} -/
theorem de_dnew {pos} : DEx X EX (.Dict [] [] pos) (dC (.dict [])) :=
  ⟨_, pe_dnewK, fun s H0 W0 W σ ρ H R Er Q S eo hd k => fun p hp => k _ _ W ρ _ hd (fun _ z => z) (Ext.same (same_upd hp)) (S.alloc hp) (.dct (kvs := []) (ds := []) (S.fresh hp) upd_same rfl .nil)⟩
/-! ### calls of what is built in -/
abbrev DF := List PyData → Option PyData
def dCall (f : DF) (r : DA) : DE := fun ρ R Er => r ρ (fun ds ρ1 => match f ds with
  | some z => R z ρ1
  | none => False) Er
def RAOk (K : Fg) (r : List V → Hp → VK → Prop) (f : DF) : Prop := ∀ (H : Hp) (W : List Addr) (vs : List V) (ds : List PyData) (z : PyData) (Q : VK), DwA K H W vs ds → f ds = some z →
  (∀ v H', Same H H' → Dw K H' W v z → Q v H') → (∀ p, H p = none → p ∉ W) → r vs H Q
theorem call_ok {r : List V → Hp → VK → Prop} {f : DF} {es : List Expr} {dr : DA} (hr : RAOk X.K r f) (ha : DAx X EX es dr) (mk : ∀ t, PA X es t → PE X e (tCB r t)) : DEx X EX e (dCall f dr) := by
  obtain ⟨t, p, q⟩ := ha.ex
  refine ⟨_, mk t p, fun s H0 W0 W σ ρ H R Er Q S eo hd k => ?_⟩
  refine q s H0 W0 W σ ρ H _ Er _ S eo hd fun vs ds W1 ρ1 H1 hd1 s1 e1 S1 w1 => ?_
  split at hd1
  · rename_i z hz
    exact hr H1 W1 vs ds z Q w1 hz (fun v H2 sm w2 => k v z W1 ρ1 H2 hd1 s1 (e1.trans (Ext.same sm)) (S1.same sm) w2) fun p hp => S1.fresh hp
  · exact hd1.elim
def fLen : DF
  | [.list xs] => some (.int xs.length)
  | [.tuple xs] => some (.int xs.length)
  | _ => none
theorem ra_len {K : Fg} : RAOk K (fun xs H Q => ∃ p ys, xs = [.ref p] ∧ (SqL K H p ys ∨ SqT K H p ys) ∧ Q (.int ys.length) H) fLen := by
  intro H W vs ds z Q hq hz k fr
  unfold fLen at hz
  split at hz
  · cases hz
    cases hq with
    | cons h1 h2 =>
      cases h2
      obtain ⟨a, rfl⟩ := h1.lstV
      obtain ⟨xs, e1, q1⟩ := h1.sqL
      exact ⟨a, xs, rfl, .inl e1, by rw [q1.length]; exact k _ H (Same.refl H) (.int _)⟩
  · cases hz
    cases hq with
    | cons h1 h2 =>
      cases h2
      obtain ⟨a, rfl⟩ := h1.tupV
      obtain ⟨xs, e1, q1⟩ := h1.sqT
      exact ⟨a, xs, rfl, .inr e1, by rw [q1.length]; exact k _ H (Same.refl H) (.int _)⟩
  · cases hz
def fMax2 : DF
  | [.int i, .int j] => some (.int (if j > i then j else i))
  | _ => none
def fMin2 : DF
  | [.int i, .int j] => some (.int (if j < i then j else i))
  | _ => none
theorem ra_max2 {K : Fg} : RAOk K (fun xs H Q => ∃ i j, xs = [.int i, .int j] ∧ Q (.int (if j > i then j else i)) H) fMax2 := by
  intro H W vs ds z Q hq hz k fr
  unfold fMax2 at hz
  split at hz
  · cases hz
    cases hq with
    | cons h1 h2 => cases h2 with
      | cons h3 h4 => cases h4; cases h1; cases h3; exact ⟨_, _, rfl, k _ H (Same.refl H) (.int _)⟩
  · cases hz
theorem ra_min2 {K : Fg} : RAOk K (fun xs H Q => ∃ i j, xs = [.int i, .int j] ∧ Q (.int (if j < i then j else i)) H) fMin2 := by
  intro H W vs ds z Q hq hz k fr
  unfold fMin2 at hz
  split at hz
  · cases hz
    cases hq with
    | cons h1 h2 => cases h2 with
      | cons h3 h4 => cases h4; cases h1; cases h3; exact ⟨_, _, rfl, k _ H (Same.refl H) (.int _)⟩
  · cases hz
def fInt : DF
  | [.int i] => some (.int i)
  | [.bool k] => some (.int (if k then 1 else 0))
  | _ => none
theorem ra_int {K : Fg} : RAOk K (fun xs H Q => (∃ i, xs = [.int i] ∧ Q (.int i) H) ∨ ∃ k, xs = [.bl k] ∧ Q (.int (if k then 1 else 0)) H) fInt := by
  intro H W vs ds z Q hq hz k fr
  unfold fInt at hz
  split at hz
  · cases hz
    cases hq with
    | cons h1 h2 => cases h2; cases h1; exact .inl ⟨_, rfl, k _ H (Same.refl H) (.int _)⟩
  · cases hz
    cases hq with
    | cons h1 h2 => cases h2; cases h1; exact .inr ⟨_, rfl, k _ H (Same.refl H) (.int _)⟩
  · cases hz
def fListOf : DF
  | [.list xs] => some (.list xs)
  | [.tuple xs] => some (.list xs)
  | _ => none
theorem ra_listOf {K : Fg} : RAOk K (fun xs H Q => ∃ p ys, xs = [.ref p] ∧ (SqL K H p ys ∨ SqT K H p ys) ∧ ∀ l, H l = none → Q (.ref l) (upd H l (.lst ys))) fListOf := by
  intro H W vs ds z Q hq hz k fr
  unfold fListOf at hz
  split at hz
  · cases hz
    cases hq with
    | cons h1 h2 =>
      cases h2
      obtain ⟨a, rfl⟩ := h1.lstV
      obtain ⟨xs, e1, q1⟩ := h1.sqL
      exact ⟨a, xs, rfl, .inl e1, fun p hp => k _ _ (same_upd hp) (Dw.newLst hp (fr p hp) q1)⟩
  · cases hz
    cases hq with
    | cons h1 h2 =>
      cases h2
      obtain ⟨a, rfl⟩ := h1.tupV
      obtain ⟨xs, e1, q1⟩ := h1.sqT
      exact ⟨a, xs, rfl, .inr e1, fun p hp => k _ _ (same_upd hp) (Dw.newLst hp (fr p hp) q1)⟩
  · cases hz
def fTupOf : DF
  | [.list xs] => some (.tuple xs)
  | [.tuple xs] => some (.tuple xs)
  | _ => none
theorem ra_tupOf {K : Fg} : RAOk K (fun xs H Q => ∃ p ys, xs = [.ref p] ∧ ((SqL K H p ys ∧ ∀ l, H l = none → Q (.ref l) (upd H l (.tup ys))) ∨ (SqT K H p ys ∧ Q (.ref p) H))) fTupOf := by
  intro H W vs ds z Q hq hz k fr
  unfold fTupOf at hz
  split at hz
  · cases hz
    cases hq with
    | cons h1 h2 =>
      cases h2
      obtain ⟨a, rfl⟩ := h1.lstV
      obtain ⟨xs, e1, q1⟩ := h1.sqL
      exact ⟨a, xs, rfl, .inl ⟨e1, fun p hp => k _ _ (same_upd hp) (Dw.newTup hp (fr p hp) q1)⟩⟩
  · cases hz
    cases hq with
    | cons h1 h2 =>
      cases h2
      obtain ⟨a, rfl⟩ := h1.tupV
      have h0 := h1
      obtain ⟨xs, e1, q1⟩ := h1.sqT
      exact ⟨a, xs, rfl, .inr ⟨e1, k _ H (Same.refl H) h0⟩⟩
  · cases hz
/-- a list of bools -/
def boolsD : List PyData → Option (List Bool)
  | [] => some []
  | .bool b :: r => (boolsD r).map (b :: ·)
  | _ :: _ => none
theorem bools_dw {K : Fg} {H : Hp} {W : List Addr} : ∀ {xs : List V} {ds : List PyData} {bs : List Bool}, DwA K H W xs ds → boolsD ds = some bs → xs = bs.map V.bl
  | _, _, bs, .nil, h => by cases h; rfl
  | _, _, bs, .cons (d := d) (ds := r) a q, h => by
    cases d with
    | bool b =>
      cases a
      simp only [boolsD, Option.map_eq_some_iff] at h
      obtain ⟨cs, h1, rfl⟩ := h
      rw [bools_dw q h1]
      rfl
    | _ => cases h
def fAll : DF
  | [.list xs] => (boolsD xs).map fun bs => .bool (bs.all id)
  | _ => none
def fAny : DF
  | [.list xs] => (boolsD xs).map fun bs => .bool (bs.any id)
  | _ => none
theorem ra_all {K : Fg} : RAOk K (rAll K) fAll := by
  intro H W vs ds z Q hq hz k fr
  unfold fAll at hz
  split at hz
  · simp only [Option.map_eq_some_iff] at hz
    obtain ⟨bs, h, rfl⟩ := hz
    cases hq with
    | cons h1 h2 =>
      cases h2
      obtain ⟨a, rfl⟩ := h1.lstV
      obtain ⟨xs, e1, q1⟩ := h1.sqL
      rw [bools_dw q1 h] at e1
      exact ⟨a, bs, rfl, e1, k _ H (Same.refl H) (.bl _)⟩
  · cases hz
theorem ra_any {K : Fg} : RAOk K (rAny K) fAny := by
  intro H W vs ds z Q hq hz k fr
  unfold fAny at hz
  split at hz
  · simp only [Option.map_eq_some_iff] at hz
    obtain ⟨bs, h, rfl⟩ := hz
    cases hq with
    | cons h1 h2 =>
      cases h2
      obtain ⟨a, rfl⟩ := h1.lstV
      obtain ⟨xs, e1, q1⟩ := h1.sqL
      rw [bools_dw q1 h] at e1
      exact ⟨a, bs, rfl, e1, k _ H (Same.refl H) (.bl _)⟩
  · cases hz
end
end DD

/-! repr, isinstance. -/
namespace DD
open PySem L2
/-! ### how long a text of data is at most -/
mutual
def sz : PyData → Nat
  | .none => 10
  | .bool _ => 10
  | .int _ => 2000
  | .str x => if (x.cps.toList.all fun c => decide (c < 4294967296)) = true then 10 * x.length + 10 else 100000000
  | .list xs => szA xs + 10
  | .tuple xs => szA xs + 10
  | .dict kvs => szK kvs + 10
def szA : List PyData → Nat
  | [] => 0
  | x :: xs => sz x + 2 + szA xs
def szK : List (PyData × PyData) → Nat
  | [] => 0
  | (k, v) :: r => sz k + sz v + 4 + szK r
end
theorem int_len {i : Int} (h : i.natAbs.log2 < 1920) : (PyData.shown (.int i)).length ≤ 2000 := by
  have e := int_text_length_le (k := 1920) (by decide) h
  have e2 : (PyData.shown (.int i)).length = (toString i).length := ofString_length _
  omega
theorem sz_str (x : Str) (h : sz (.str x) < 100000000) : (PyData.shown (.str x)).length ≤ sz (.str x) := by
  unfold sz at h ⊢
  split at h
  · rename_i hc
    rw [if_pos hc]
    have hx : ∀ c ∈ x.cps.toList, c < 16 ^ 8 := by
      intro c hcc
      have := List.all_eq_true.mp hc c hcc
      have := of_decide_eq_true this
      omega
    have := StrLaws.reprText_len x hx
    simp only [PyData.shown]
    omega
  · omega
mutual
theorem shown_sz : ∀ d : PyData, d.showable = true → sz d < 100000000 → d.shown.length ≤ sz d
  | .none, _, _ => by decide
  | .bool b, _, _ => by cases b <;> decide
  | .int i, h, _ => by
    have h' : i.natAbs.log2 < 1920 := by simpa only [PyData.showable, decide_eq_true_eq] using h
    have := int_len h'
    simpa only [sz] using this
  | .str x, _, h => sz_str x h
  | .list xs, h, hz => by
    simp only [sz] at hz ⊢
    have h1 := shownAll_sz xs (by simpa only [PyData.showable] using h) (by omega)
    have h2 := listText_len_le (PyData.shownAll xs)
    have h3 := PyData.shownAll_length xs
    simp only [PyData.shown]
    omega
  | .tuple xs, h, hz => by
    simp only [sz] at hz ⊢
    have h1 := shownAll_sz xs (by simpa only [PyData.showable] using h) (by omega)
    have h2 := tupleText_len_le (PyData.shownAll xs)
    have h3 := PyData.shownAll_length xs
    simp only [PyData.shown]
    omega
  | .dict kvs, h, hz => by
    simp only [sz] at hz ⊢
    have h1 := shownKv_sz kvs (by simpa only [PyData.showable] using h) (by omega)
    have h2 := dictText_len_le (PyData.shownKv kvs)
    have h3 := PyData.shownKv_length kvs
    simp only [PyData.shown]
    omega
theorem shownAll_sz : ∀ xs : List PyData, PyData.showableAll xs = true → szA xs < 100000000 → ((PyData.shownAll xs).map (·.length)).sum + 2 * xs.length ≤ szA xs
  | [], _, _ => by simp only [PyData.shownAll, szA, List.map_nil, List.sum_nil, List.length_nil]; omega
  | x :: xs, h, hz => by
    simp only [szA] at hz ⊢
    have h' : x.showable = true ∧ PyData.showableAll xs = true := by simpa only [PyData.showableAll, Bool.and_eq_true] using h
    have h1 := shown_sz x h'.1 (by omega)
    have h2 := shownAll_sz xs h'.2 (by omega)
    simp only [PyData.shownAll, List.map_cons, List.sum_cons, List.length_cons]
    omega
theorem shownKv_sz : ∀ kvs : List (PyData × PyData), PyData.showableKv kvs = true → szK kvs < 100000000 → ((PyData.shownKv kvs).map (·.length)).sum + 2 * kvs.length ≤ szK kvs
  | [], _, _ => by simp only [PyData.shownKv, szK, List.map_nil, List.sum_nil, List.length_nil]; omega
  | (k, v) :: r, h, hz => by
    simp only [szK] at hz ⊢
    have h' : (k.showable = true ∧ v.showable = true) ∧ PyData.showableKv r = true := by simpa only [PyData.showableKv, Bool.and_eq_true] using h
    have h1 := shown_sz k h'.1.1 (by omega)
    have h2 := shown_sz v h'.1.2 (by omega)
    have h3 := shownKv_sz r h'.2 (by omega)
    have e2 : (k.shown ++ ": " ++ v.shown).length = k.shown.length + 2 + v.shown.length := by
      rw [strLen_append, strLen_append]; rfl
    simp only [PyData.shownKv, List.map_cons, List.sum_cons, List.length_cons]
    omega
end
/-- data that repr may be asked of -/
def rOk (d : PyData) : Bool := d.showable && decide (d.depth ≤ 60) && decide (sz d ≤ 16777216) && !d.hasDict
def fRepr : DF
  | [d] => if rOk d then some (.str d.shown) else match d with
    | .dict [] => some (.str d.shown)
    | _ => none
  | _ => none
section
variable {X : Cx}
def rRepr (K : Fg) : List V → Hp → VK → Prop := fun vs H Q => ∃ (v : V) (d : PyData) (W : List Addr), vs = [v] ∧ Dw K H W v d ∧ (rOk d = true ∨ d = .dict []) ∧ Q (.str d.shown) H
theorem call_reprD (hg : X.A.guards = some []) (hu : X.A.units + 64 < cLine) : CallR X (.builtin "repr") (rRepr X.K) := by
  intro pins s σ H vs us Q I r h
  obtain ⟨v, d, W, rfl, hd, ho, q⟩ := h
  obtain ⟨u, rfl, rv⟩ := vals1 r
  rcases ho with ho | rfl
  · unfold rOk at ho
    simp only [Bool.and_eq_true, Bool.not_eq_true', decide_eq_true_eq] at ho
    obtain ⟨⟨⟨h1, h2⟩, h3⟩, h4⟩ := ho
    have hl : d.shown.length ≤ sizeLine := Nat.le_trans (shown_sz d h1 (by omega)) (by rw [sizeLine_eq]; exact h3)
    obtain ⟨as, rd⟩ := Dw.reads I d v u h4 hd rv
    have big : ∀ a, u = .ref a → wpAny (model X.prog X.w) X.A (call (.builtin "repr") [u]) (EP X pins σ Q) X.xe s := fun a e => by
      subst e
      exact repr_of_reads' rd h1 (PyData.noDict_hsm h4) hg (by omega) (fun _ _ e => e) (fun h' u' tk hk => ⟨.str d.shown, H, I.kept hk, ⟨_, rfl⟩, q⟩) hl
    cases hd with
    | non => cases rv; exact P.repr_of_none ⟨.str _, H, I.tok _, ⟨_, rfl⟩, q⟩
    | bl b =>
      cases rv
      refine P.repr_of_bool ⟨.str _, H, I.tok _, ⟨_, rfl⟩, ?_⟩
      cases b <;> exact q
    | int i =>
      obtain ⟨t, rfl⟩ := rv
      have h' : i.natAbs.log2 < 1920 := by simpa only [PyData.showable, decide_eq_true_eq] using h1
      exact P.repr_of_int h' ⟨.str _, H, I.tok _, ⟨_, rfl⟩, q⟩
    | str x =>
      obtain ⟨t, rfl⟩ := rv
      exact P.repr_of_str ⟨.str _, H, I.tok _, ⟨_, rfl⟩, q⟩ (by simpa only [PyData.shown] using hl)
    | lst n r q => cases rv; exact big _ rfl
    | tup r q => cases rv; exact big _ rfl
    | ktup n q => cases rv; exact big _ rfl
    | dct n r k q => cases rv; exact big _ rfl
    | dcT n r e0 k q => cases rv; exact big _ rfl
  · cases hd with
    | dcT n hr e0 hk hq => exact absurd rfl e0
    | dct n hr hk hq =>
      rename_i a kvs
      cases rv
      have e0 : kvs = [] := by
        cases kvs with
        | nil => rfl
        | cons x y => simp at hk
      subst e0
      obtain ⟨_, hS, vs, kv, o, es, ep, ho, hx, hdat, _, hpr, _⟩ := I.hok a _ hr
      cases kv
      have e1 : es.toList = [] := by
        generalize es.toList = l at hpr
        cases hpr
        rfl
      have rd : Reads s.heap (.ref a) (.dict []) ([a] ++ []) := by
        refine Reads.dict (es := es) (n := ep) ho hx.1 hdat ?_ ?_
        · rw [e1]; exact ReadsAll.nil
        · rw [e1]; exact ReadsAll.nil
      refine repr_of_reads' rd (by simp [PyData.showable, PyData.showableKv]) (fun _ => ?_) hg ?_ (fun _ _ e => e) (fun h' u' tk hk => ⟨.str _, H, I.kept hk, ⟨_, rfl⟩, q⟩) ?_
      · simp
        intro e
        rw [← e] at hS
        simp at hS
      · simp only [PyData.depth, PyData.depthKv]; omega
      · decide
theorem ra_repr {K : Fg} : RAOk K (rRepr K) fRepr := by
  intro H W vs ds z Q hq hz k fr
  unfold fRepr at hz
  split at hz
  · rename_i d
    cases hq with
    | cons h1 h2 =>
      cases h2
      split at hz
      · rename_i ho
        cases hz
        exact ⟨_, d, W, rfl, h1, .inl ho, k _ H (Same.refl H) (.str _)⟩
      · split at hz
        · cases hz
          exact ⟨_, _, W, rfl, h1, .inr rfl, k _ H (Same.refl H) (.str _)⟩
        · cases hz
  · cases hz
/-! ### isinstance(x, T), T one built-in class -/
def tyD : PyData → String
  | .none => "NoneType"
  | .bool _ => "bool"
  | .int _ => "int"
  | .str _ => "str"
  | .list _ => "list"
  | .tuple _ => "tuple"
  | .dict _ => "dict"
theorem dw_ty {K : Fg} {H : Hp} {W : List Addr} {v : V} {d : PyData} (h : Dw K H W v d) : TyX K H v (.type (tyD d)) := by
  cases h with
  | non => exact .base .non
  | bl b => exact .base (.bl b)
  | int i => exact .base (.int i)
  | str x => exact .base (.str x)
  | lst n r q => exact .base (.lst r)
  | tup r q => exact .base (.tup r)
  | ktup k q =>
    obtain ⟨o, its, n, h1, h2, _⟩ := k
    exact .kTuple h1 h2
  | dct n r k q => exact .base (.dK r)
  | dcT n r e0 k q => exact .base (.dT r)
def isiD (c : String) (d : PyData) : Bool := match d with
  | .bool _ => c == "bool" || c == "int"
  | d => c == tyD d
theorem kit_isi (c : String) (d : PyData) (h : c = "int" ∨ c = "bool" ∨ c = "tuple" ∨ c = "list" ∨ c = "str" ∨ c = "dict") : kitB (tyD d) c = some (isiD c d) := by
  rcases h with rfl | rfl | rfl | rfl | rfl | rfl <;> cases d <;> simp only [tyD, isiD] <;> decide +kernel
def dIsi (c : String) (a : DE) : DE := fun ρ R Er => a ρ (fun d ρ1 => R (.bool (isiD c d)) ρ1) Er
theorem de_isi {EX : XK} {c : String} {a : Expr} {da : DE} {cx : Str} {p p2 pos : Pos} (hc : c = "int" ∨ c = "bool" ∨ c = "tuple" ∨ c = "list" ∨ c = "str" ∨ c = "dict") (hg : Gl X "isinstance") (hm : X.mg "isinstance" = none)
    (hg2 : Gl X cx) (hm2 : X.mg cx = none) (hv : bootBuiltins cx = some (.type c)) (ha : DEx X EX a da)
    (hn : cx ≠ "__name__" := by decide) (hd : (cx == ("__debug__" : Str)) = false := by decide)
    (s1 : starEach [a, .Name cx p2] X.env = (false, eval a X.env) :: starEach [.Name cx p2] X.env := by rfl) (s2 : starEach [.Name cx p2] X.env = (false, eval (.Name cx p2) X.env) :: starEach [] X.env := by rfl)
    (hpl : (backTo pos (starEach [.Name cx p2] X.env)).any (·.1) = false := by rfl) :
    DEx X EX (.Call (.Name "isinstance" p) [a, .Name cx p2] [] pos) (dIsi c da) := by
  obtain ⟨t, pa, q⟩ := ha.ex
  refine ⟨_, pe_callB call_isi hg hm PyProof.Rows.boot_isinstance (pa_cons pa (pa_cons (pe_bltn (v := .ty c) hg2 hm2 hv rfl hn hd) pa_nil s2) s1) (he := s1) (hpl := hpl), fun s H0 W0 W σ ρ H R Er Q S eo hd k => ?_⟩
  refine q s H0 W0 W σ ρ H _ Er _ S eo hd fun v d W1 ρ1 H1 hd1 s1 e1 S1 w1 => ?_
  exact ⟨v, .ty c, .type (tyD d), .type c, isiD c d, rfl, .ty c, dw_ty w1, kit_ty (kit_isi c d hc), k _ _ W1 ρ1 H1 hd1 s1 e1 S1 (.bl _)⟩
end
end DD

/-! Defs: what they promise, over data; how they are called. -/
namespace DD
open PySem L2 PyProof.Rows
/-- as FnOk, where no repr runs around -/
structure FnG (P : Program) (w : World) (K : Fg) (mg : Str → Option Value) (base : Heap) (CX : CXT) (k : Nat) (f : Addr) (fd : FuncData) (ps : List Str) (sp : Sp) : Prop where
  len : ∀ vs H Q E, sp vs H Q E → vs.length = ps.length
  run : ∀ (A : Around) (outer : List Env) (s : Shared) (H : Hp) (args : Args) (us : List Value) (vs : List V) (Q : VK) (E : XK), Room k A → A.guards = some [] → Env0 P w K mg base A outer s H →
    BindsTo s fd args (ps.zip us) → Vals vs us → sp vs H Q E → codeAny (model P w) A (.call (.ref f) args) (CR CX outer P w H s Q E) s
section
variable {X : Cx} {CX : CXT} {k : Nat} {f : Addr} {fd : FuncData} {ps : List Str} {sp : Sp} {E : XK} {x : Str} {p pos : Pos} {e : Expr} {es : List Expr} {t : TA}
theorem run_g {pins : List (Addr × Obj)} {σ : L2.St} {H : Hp} {s : Shared} {Q : VK} {us : List Value} {vs : List V} (F : FnG X.prog X.w X.K X.mg X.base CX k f fd ps sp) (hr : Room k X.A) (hg : X.A.guards = some []) (hb : Binds X.K fd ps [])
    (hx : Passes CX X E) (I : Inv X pins σ H s) (r : Vals vs us) (h : sp vs H Q E) : wpAny (model X.prog X.w) X.A (call (.ref f) us) (EP X pins σ Q) X.xe s := by
  have hl : (us ++ []).length = ps.length := by
    rw [List.append_nil, ← r.length]
    exact F.len _ _ _ _ h
  have hbd := hb s us I.kIn hl
  rw [List.append_nil] at hbd
  refine wpAny_call (codeAny_mono (F.run X.A X.stack s H ⟨us, []⟩ us vs Q E hr hg I.env0 hbd r h) fun o s' q => ?_)
  rcases o with e | fl
  · exact hx pins σ H s e s' I q
  · cases fl <;> first | exact I.after q | exact q.elim
theorem pe_callG (F : FnG X.prog X.w X.K X.mg X.base CX k f fd ps sp) (hr : Room k X.A) (hgd : X.A.guards = some []) (hg : Gl X x) (hm : X.mg x = some (.ref f)) (hk : PySem.W.keepIn X.K (.ref f) = true) (hb : Binds X.K fd ps [])
    (hx : Passes CX X E) (ha : PA X (e :: es) t) (hdb : (x == ("__debug__" : Str)) = false := by decide)
    (he : starEach (e :: es) X.env = (false, eval e X.env) :: starEach es X.env := by rfl) (hpl : (backTo pos (starEach es X.env)).any (·.1) = false := by rfl) :
    PE X (.Call (.Name x p) (e :: es) [] pos) (tCall sp [] E t) := by
  refine ⟨fun pins s σ H Q I h => wpAny_Call_Name_kw (ld_glob I hg hm ?_ hdb)⟩
  refine PySem.W.callWith_K (h₀ := X.base) I.ok.mod.kin hk (thn (ha.run pos pins s σ H _ I h) fun us s1 q => ?_) he hpl
  obtain ⟨vs, H1, I1, r, q⟩ := q
  rw [List.append_nil] at q
  exact ⟨I1.kIn, run_g F hr hgd hb hx I1 r q⟩
end
/-- a def's body, where no repr runs around -/
theorem fn_g {CX : CXT} {P : Program} {w : World} {K : Fg} {mg : Str → Option Value} {base : Heap} {k : Nat} {f : Addr} {name qual : Str} {params : Arguments} {body : List Stmt} {scope : Scope} {dV kV doc pm cdv ct oc : Value} {an od : Option Addr}
    {osl : Array (Option Value)} {N ps : List Str} {sp : Sp} (lk : K.lookup f = some ⟨oc, od, .func (PySem.W.fnOf name qual params body scope dV kV doc pm an cdv ct), osl⟩) (hcd : PySem.W.codeIn K cdv qual = true) (S : FnScope N ps scope)
    (len : ∀ vs H Q E, sp vs H Q E → vs.length = ps.length)
    (hb : ∀ (A : Around) (outer : List Env) (s : Shared) (H : Hp) (vs : List V) (Q : VK) (E : XK), Room k (A.deeper (envOfC qual scope s.heap.objs.size f cdv)) → A.guards = some [] → sp vs H Q E →
      ∃ t, PSs (cxOf CX P w K mg base N qual scope f cdv A outer s H E) body t ∧ t { nx := fun _ H' => Q .non H', rt := Q } (start N vs) H) :
    FnG P w K mg base CX (k + 1) f (PySem.W.fnOf name qual params body scope dV kV doc pm an cdv ct) ps sp := by
  constructor
  · exact len
  intro A outer s H args us vs Q E hr hgd e0 hbd r hsp
  have KX : K.In s.heap := e0.mod.kin.keeps fun b o e => (e0.bs b o e).1
  have nl : s.heap.NoLimit := e0.mod.nolimit.keeps fun b o e => (e0.bs b o e).1
  obtain ⟨t, ht, hq⟩ := hb A outer s H vs Q E (hr.deeper _) hgd hsp
  refine codeAny_call_function hr.depth (KX _ _ lk) rfl S.co S.gen rfl (PySem.W.codeRec_of KX hcd) (hbd _ _ _ _ (wpAny_newFunctionEnv_cells S.kind (fun y hy => ?_) fun env he s1 x => ?_))
  · rcases S.par y.1 (List.of_mem_zip hy).1 with q | q
    · exact .inl q
    · exact .inr ⟨q, PySem.W.cellsFrom_some _ _ _ (.inl q)⟩
  · subst he
    have I := inv_start (CX := CX) (E := E) S hr.hd e0 (len _ _ _ _ hsp) r x
    refine ⟨nl.keeps x.toInCall.keep, codeAny_func (wpAny_mono (ht.run [] s1 (start N vs) H _ I hq) (fun fl s' hs => ?_) fun e s' hs => hs)⟩
    cases fl with
    | ret u =>
      obtain ⟨v, σ', H', J, rv, q⟩ := hs
      exact ⟨v, H', J.os, J.bare, J.base, J.hok, rv, q⟩
    | next =>
      obtain ⟨σ', H', J, q⟩ := hs
      exact ⟨V.non, H', J.os, J.bare, J.base, J.hok, rfl, q⟩
    | brk => exact hs.elim fun _ z => z.elim fun _ z => (show False from z.2).elim
    | cont => exact hs.elim fun _ z => z.elim fun _ z => (show False from z.2).elim
/-! ### promises over data -/
/-- what a def does with data: a wish of its value, a wish of its errors -/
abbrev PF := List PyData → (PyData → Prop) → Er' → Prop
def Wok (H : Hp) (W : List Addr) : Prop := ∀ a ∈ W, ∃ o, H a = some o
/-- of data alone -/
def spD (K : Fg) (n : Nat) (f : PF) : Sp := fun vs H Q E => vs.length = n ∧ ∃ (W : List Addr) (ds : List PyData) (R : PyData → Prop) (Er : Er'), Wok H W ∧ DwA K H W vs ds ∧ f ds R Er ∧
  (∀ (v : V) (d : PyData) (H' : Hp), R d → Same H H' → Dw K H' W v d → Q v H') ∧ ErOk K H W sc0 E Er
/-- of a source and data -/
def spS (K : Fg) (n : Nat) (f : PF) : Sp := fun vs H Q E => vs.length = n ∧ ∃ (a : Addr) (vs' : List V) (W : List Addr) (ds : List PyData) (R : PyData → Prop) (Er : Er'), vs = .ref a :: vs' ∧ Wok H W ∧ a ∈ W ∧ SrcAt H a ∧ DwA K H W vs' ds ∧ f ds R Er ∧
  (∀ (v : V) (d : PyData) (H' : Hp), R d → (∀ b o, b ≠ a → H b = some o → H' b = some o) → SrcAt H' a → Dw K H' W v d → Q v H') ∧ ErOk K H W (scS a) E Er
section
variable {X : Cx} {EX : XK} {CX : CXT} {k n : Nat} {f : Addr} {fd : FuncData} {ps : List Str} {fn : PF} {x : Str} {p pos : Pos} {e : Expr} {es : List Expr} {da : DA}
def dFn (fn : PF) (a : DA) : DE := fun ρ R Er => a ρ (fun ds ρ1 => fn ds (fun d => R d ρ1) Er.bare) Er
/-- f(a, ..) of data -/
theorem de_fn (F : FnG X.prog X.w X.K X.mg X.base CX k f fd ps (spD X.K n fn)) (hr : Room k X.A) (hgd : X.A.guards = some []) (hg : Gl X x) (hm : X.mg x = some (.ref f)) (hk : PySem.W.keepIn X.K (.ref f) = true) (hb : Binds X.K fd ps [])
    (hx : Passes CX X EX) (hn : (e :: es).length = n) (ha : DAx X EX (e :: es) da) (hdb : (x == ("__debug__" : Str)) = false := by decide)
    (he : starEach (e :: es) X.env = (false, eval e X.env) :: starEach es X.env := by rfl) (hpl : (backTo pos (starEach es X.env)).any (·.1) = false := by rfl) :
    DEx X EX (.Call (.Name x p) (e :: es) [] pos) (dFn (fun ds R Er => ds.length = n ∧ fn ds R Er) da) := by
  obtain ⟨t, pa, q⟩ := ha.ex
  refine ⟨_, pe_callG F hr hgd hg hm hk hb hx pa hdb he hpl, fun s H0 W0 W σ ρ H R Er Q S eo hd kk => ?_⟩
  refine q s H0 W0 W σ ρ H _ Er _ S eo hd fun vs ds W1 ρ1 H1 hd1 s1 e1 S1 w1 => ?_
  show spD X.K n fn (vs ++ []) H1 Q EX
  rw [List.append_nil]
  refine ⟨by rw [w1.length]; exact hd1.1, W1, ds, _, Er.bare, S1.tr, w1, hd1.2, fun v d H2 hR sm w2 => kk v d W1 ρ1 H2 hR s1 (e1.trans (Ext.same sm)) (S1.same sm) w2, (fun _ h => by cases h), fun C d dd v H2 her fr _ _ hdd hxd hdw => ?_⟩
  refine eo.wish C d dd v H2 her (fun b o hb hne => fr b o (S1.frame b o hb hne) Sc.no0) (fun a ha => (S1.src a ha).2.2.stay fun o h => fr a o h Sc.no0) (S1.tab.1.ext fun b o h => fr b o h Sc.no0) (S1.fresh0 hdd) hxd (hdw.to (Ext.refl _ _) S1.sub)
/-- f(source, a, ..) -/
def dFnS (i : Nat) (fn : PF) (a : DA) : DE := fun ρ R Er => ρ[i]? = some (some .src) ∧ a ρ (fun ds ρ1 => fn ds (fun d => R d ρ1) Er.bare) Er
theorem de_fnS {i : Nat} {y : Str} {py : Pos} (F : FnG X.prog X.w X.K X.mg X.base CX k f fd ps (spS X.K n fn)) (hr : Room k X.A) (hgd : X.A.guards = some []) (hg : Gl X x) (hm : X.mg x = some (.ref f)) (hk : PySem.W.keepIn X.K (.ref f) = true) (hb : Binds X.K fd ps [])
    (hx : Passes CX X EX) (hv : PE X (.Name y py) (tVar i)) (ha : DAx X EX es da) (hdb : (x == ("__debug__" : Str)) = false := by decide)
    (he : starEach (.Name y py :: es) X.env = (false, eval (.Name y py) X.env) :: starEach es X.env := by rfl) (hpl : (backTo pos (starEach es X.env)).any (·.1) = false := by rfl) :
    DEx X EX (.Call (.Name x p) (.Name y py :: es) [] pos) (dFnS i (fun ds R Er => ds.length + 1 = n ∧ fn ds R Er) da) := by
  obtain ⟨t, pa, q⟩ := ha.ex
  refine ⟨_, pe_callG F hr hgd hg hm hk hb hx (pa_cons hv pa he) hdb he hpl, fun s H0 W0 W σ ρ H R Er Q S eo hd kk => ?_⟩
  obtain ⟨hi, hd⟩ := hd
  obtain ⟨v0, hv0, a, rfl, hs⟩ := S.slot i _ hi
  refine ⟨_, hv0, ?_⟩
  refine q s H0 W0 W σ ρ H _ Er _ S eo hd fun vs ds W1 ρ1 H1 hd1 s1 e1 S1 w1 => ?_
  show spS X.K n fn (.ref a :: vs ++ []) H1 Q EX
  rw [List.append_nil]
  obtain ⟨a1, a2, a3⟩ := S1.src a hs
  have nl : ∀ b o, H1 b = some o → (∀ xs, o ≠ .lst xs) → b ≠ a := fun b o h n z => by
    obtain ⟨x, y, q, _⟩ := a3
    rw [z, q] at h
    exact n _ (Option.some.inj h).symm
  have nh : ∀ b, ¬ s.Has b → b ≠ a := fun b n z => n (.inl (by rw [z]; exact hs))
  refine ⟨by simp [w1.length, hd1.1], a, vs, W1, ds, _, Er.bare, rfl, S1.tr, S1.sub a a1, a3, w1, hd1.2, fun v d H2 hR sm hs2 w2 => ?_, (fun _ h => by cases h), fun C d dd v H2 her fr hsr _ hdd hxd hdw => ?_⟩
  · have S2 := S1.grow (H' := H2) (fun b o hb h => sm b o (nh b hb) h) (fun b hb => by rw [hs] at hb; cases hb; exact hs2) (tabs_stay S1.tab.1 fun b o h n => sm b o (nl b o h n) h)
    refine kk v d W1 ρ1 H2 hR s1 (e1.trans fun b o hn h => sm b o (fun z => ?_) h) S2 w2
    cases z
    rcases hn with hn | ⟨xs, rfl⟩
    · exact hn (s1 _ (S1.sub _ a1))
    · exact nl _ _ h (fun _ z => by cases z) rfl
  · refine eo.wish C d dd v H2 her (fun b o hb hne => fr b o (S1.frame b o hb hne) (Sc.noS (nh b hne))) (fun b hb => ?_) (tabs_stay S1.tab.1 fun b o h n => fr b o h (Sc.noS (nl b o h n))) (S1.fresh0 hdd) hxd (hdw.to (Ext.refl _ _) S1.sub)
    rw [hs] at hb
    cases hb
    exact hsr a rfl
end
end DD

/-! Statements over data. -/
namespace DD
open PySem L2
structure DEnds where
  nx : Env' → Prop
  rt : PyData → Env' → Prop
  bk : Env' → Prop := fun _ => False
  ct : Env' → Prop := fun _ => False
abbrev DS := DEnds → Env' → Er' → Prop
/-- the heap goes on: what belonged to nobody stays, what somebody owns now is new or was owned -/
def Step (W : List Addr) (H : Hp) (W' : List Addr) (H' : Hp) : Prop := Ext W H H' ∧ ∀ x ∈ W', x ∈ W ∨ H x = none
theorem Step.refl (W : List Addr) (H : Hp) : Step W H W H := ⟨Ext.refl _ _, fun _ h => .inl h⟩
theorem Step.of {W W' : List Addr} {H H' : Hp} (s : ∀ x ∈ W', x ∈ W) (e : Ext W H H') : Step W H W' H' := ⟨e, fun x h => .inl (s x h)⟩
theorem Step.trans {W W1 W2 : List Addr} {H H1 H2 : Hp} (a : Step W H W1 H1) (b : Step W1 H1 W2 H2) : Step W H W2 H2 := by
  refine ⟨fun x o n h => ?_, fun x h => ?_⟩
  · refine b.1 x o ?_ (a.1 x o n h)
    rcases n with n | n
    · refine .inl fun z => ?_
      rcases a.2 x z with q | q
      · exact n q
      · rw [h] at q; cases q
    · exact .inr n
  · rcases b.2 x h with q | q
    · exact a.2 x q
    · by_cases hx : x ∈ W
      · exact .inl hx
      · refine .inr ?_
        cases e : H x with
        | none => rfl
        | some o =>
          rw [a.1.un hx e] at q
          cases q
theorem Step.dw {K : Fg} {W W' : List Addr} {H H' : Hp} {v : V} {d : PyData} (a : Step W H W' H') (h : Dw K H W v d) : Dw K H' W' v d := by
  have aux : (∀ {v d}, Dw K H W v d → Dw K H' W' v d) := by
    intro v d h
    exact Dw.rec (motive_1 := fun v d _ => Dw K H' W' v d) (motive_2 := fun vs ds _ => DwA K H' W' vs ds)
      .non .bl .int .str
      (fun n r _ ih => .lst (fun z => (a.2 _ z).elim n fun q => by rw [r] at q; cases q) (a.1.un n r) ih)
      (fun r _ ih => .tup (a.1.tp r) ih)
      (fun k _ ih => .ktup k ih)
      (fun n r k _ ih => .dct (fun z => (a.2 _ z).elim n fun q => by rw [r] at q; cases q) (a.1.un n r) k ih)
      (fun n r e0 k _ ih => .dcT (fun z => (a.2 _ z).elim n fun q => by rw [r] at q; cases q) (a.1.un n r) e0 k ih)
      .nil (fun _ _ i1 i2 => .cons i1 i2) h
  exact aux h
theorem Step.dwA {K : Fg} {W W' : List Addr} {H H' : Hp} (a : Step W H W' H') : ∀ {vs : List V} {ds : List PyData}, DwA K H W vs ds → DwA K H' W' vs ds
  | _, _, .nil => .nil
  | _, _, .cons h q => .cons (a.dw h) (a.dwA q)
/-- behind a statement -/
structure BkS (K : Fg) (H0 : Hp) (W0 : List Addr) (s : Sc) (W : List Addr) (H : Hp) (D : DEnds) (E : Ends) : Prop where
  nx : ∀ (W' : List Addr) (σ' : St) (ρ' : Env') (H' : Hp), D.nx ρ' → Step W H W' H' → SOk K H0 W0 s W' σ' ρ' H' → E.nx σ' H'
  rt : ∀ (W' : List Addr) (σ' : St) (ρ' : Env') (H' : Hp) (v : V) (d : PyData), D.rt d ρ' → SOk K H0 W0 s W' σ' ρ' H' → Dw K H' W' v d → E.rt v H'
  bk : ∀ (W' : List Addr) (σ' : St) (ρ' : Env') (H' : Hp), D.bk ρ' → Step W H W' H' → SOk K H0 W0 s W' σ' ρ' H' → E.bk σ' H'
  ct : ∀ (W' : List Addr) (σ' : St) (ρ' : Env') (H' : Hp), D.ct ρ' → Step W H W' H' → SOk K H0 W0 s W' σ' ρ' H' → E.ct σ' H'
theorem BkS.after {K : Fg} {H0 : Hp} {W0 : List Addr} {s : Sc} {W W1 : List Addr} {H H1 : Hp} {D : DEnds} {E : Ends} (b : BkS K H0 W0 s W H D E) (st : Step W H W1 H1) : BkS K H0 W0 s W1 H1 D E :=
  ⟨fun W' σ' ρ' H' h s' S => b.nx W' σ' ρ' H' h (st.trans s') S, b.rt, fun W' σ' ρ' H' h s' S => b.bk W' σ' ρ' H' h (st.trans s') S, fun W' σ' ρ' H' h s' S => b.ct W' σ' ρ' H' h (st.trans s') S⟩
structure DSx (X : Cx) (EX : XK) (st : Stmt) (dt : DS) : Prop where
  ex : ∃ t, PS X st t ∧ ∀ (s : Sc) (H0 : Hp) (W0 W : List Addr) (σ : St) (ρ : Env') (H : Hp) (D : DEnds) (Er : Er') (E : Ends), SOk X.K H0 W0 s W σ ρ H → ErOk X.K H0 W0 s EX Er → dt D ρ Er → BkS X.K H0 W0 s W H D E → t E σ H
structure DBx (X : Cx) (EX : XK) (st : List Stmt) (dt : DS) : Prop where
  ex : ∃ t, PSs X st t ∧ ∀ (s : Sc) (H0 : Hp) (W0 W : List Addr) (σ : St) (ρ : Env') (H : Hp) (D : DEnds) (Er : Er') (E : Ends), SOk X.K H0 W0 s W σ ρ H → ErOk X.K H0 W0 s EX Er → dt D ρ Er → BkS X.K H0 W0 s W H D E → t E σ H
section
variable {X : Cx} {EX : XK} {st : Stmt} {rest : List Stmt} {ds du : DS} {e : Expr} {da : DE} {pos : Pos}
def sNil : DS := fun D ρ _ => D.nx ρ
def sSeq (a b : DS) : DS := fun D ρ Er => a { D with nx := fun ρ1 => b D ρ1 Er } ρ Er
theorem db_nil : DBx X EX [] sNil := ⟨_, pss_nil, fun s H0 W0 W σ ρ H D Er E S eo hd k => k.nx W σ ρ H hd (Step.refl _ _) S⟩
theorem db_cons (h1 : DSx X EX st ds) (h2 : DBx X EX rest du) : DBx X EX (st :: rest) (sSeq ds du) := by
  obtain ⟨t, p, q⟩ := h1.ex
  obtain ⟨t2, p2, q2⟩ := h2.ex
  refine ⟨_, pss_cons p p2, fun s H0 W0 W σ ρ H D Er E S eo hd k => ?_⟩
  exact q s H0 W0 W σ ρ H { D with nx := fun ρ1 => du D ρ1 Er } Er _ S eo hd ⟨fun W' σ' ρ' H' h st S' => q2 s H0 W0 W' σ' ρ' H' D Er E S' eo h (k.after st), k.rt, k.bk, k.ct⟩
theorem db_one (h1 : DSx X EX st ds) : DBx X EX [st] ds := by
  obtain ⟨t, p, q⟩ := h1.ex
  exact ⟨_, pss_one p, q⟩
theorem ds_pass : DSx X EX (.Pass pos) sNil := ⟨_, ps_pass, fun s H0 W0 W σ ρ H D Er E S eo hd k => k.nx W σ ρ H hd (Step.refl _ _) S⟩
def sBrk : DS := fun D ρ _ => D.bk ρ
def sCont : DS := fun D ρ _ => D.ct ρ
theorem ds_brk : DSx X EX (.Break pos) sBrk := ⟨_, ps_break, fun s H0 W0 W σ ρ H D Er E S eo hd k => k.bk W σ ρ H hd (Step.refl _ _) S⟩
theorem ds_cont : DSx X EX (.Continue pos) sCont := ⟨_, ps_continue, fun s H0 W0 W σ ρ H D Er E S eo hd k => k.ct W σ ρ H hd (Step.refl _ _) S⟩
def sRet (a : DE) : DS := fun D ρ Er => a ρ (fun d ρ1 => D.rt d ρ1) Er
theorem ds_ret (ha : DEx X EX e da) : DSx X EX (.Return (some e) pos) (sRet da) := by
  obtain ⟨t, p, q⟩ := ha.ex
  refine ⟨_, ps_ret p, fun s H0 W0 W σ ρ H D Er E S eo hd k => ?_⟩
  exact q s H0 W0 W σ ρ H _ Er _ S eo hd fun v d W1 ρ1 H1 hd1 s1 e1 S1 w1 => k.rt W1 σ ρ1 H1 v d hd1 S1 w1
def sDrop (a : DE) : DS := fun D ρ Er => a ρ (fun _ ρ1 => D.nx ρ1) Er
theorem ds_expr (ha : DEx X EX e da) (hs : swapsWith e none pos.line X.env = pure false := by rfl) : DSx X EX (.Expr e pos) (sDrop da) := by
  obtain ⟨t, p, q⟩ := ha.ex
  refine ⟨_, ps_expr p hs, fun s H0 W0 W σ ρ H D Er E S eo hd k => ?_⟩
  exact q s H0 W0 W σ ρ H _ Er _ S eo hd fun v d W1 ρ1 H1 hd1 s1 e1 S1 w1 => k.nx W1 σ ρ1 H1 hd1 (Step.of s1 e1) S1
def sIf (c : DT) (a b : DS) : DS := fun D ρ Er => c ρ (fun k ρ1 => match k with | true => a D ρ1 Er | false => b D ρ1 Er) Er
theorem ds_if {c : Expr} {a b : List Stmt} {dc : DT} (hc : DTx X EX c dc) (ha : DBx X EX a ds) (hb : DBx X EX b du) : DSx X EX (.If c a b pos) (sIf dc ds du) := by
  obtain ⟨t, p, q⟩ := hc.ex
  obtain ⟨t1, p1, q1⟩ := ha.ex
  obtain ⟨t2, p2, q2⟩ := hb.ex
  refine ⟨_, ps_if p p1 p2, fun s H0 W0 W σ ρ H D Er E S eo hd k => ?_⟩
  refine q s H0 W0 W σ ρ H _ Er _ S eo hd fun b W1 ρ1 H1 hd1 s1 e1 S1 => ?_
  cases b with
  | true => exact iteT (q1 s H0 W0 W1 σ ρ1 H1 D Er E S1 eo hd1 (k.after (Step.of s1 e1)))
  | false => exact iteF (q2 s H0 W0 W1 σ ρ1 H1 D Er E S1 eo hd1 (k.after (Step.of s1 e1)))
/-! ### targets -/
abbrev DG := PyData → Env' → (Env' → Prop) → Prop
/-- the slots told are the only ones that are stored -/
structure DGx (X : Cx) (tg : Expr) (is : List Nat) (dg : DG) : Prop where
  ex : ∃ g, PG X tg g ∧ ∀ (s : Sc) (H0 : Hp) (W0 W : List Addr) (σ : St) (ρ : Env') (H : Hp) (v : V) (d : PyData) (R : Env' → Prop) (Q : St → Hp → Prop), SOk X.K H0 W0 s W σ ρ H → Dw X.K H W v d → dg d ρ R →
    (∀ (σ' : St) (ρ' : Env'), R ρ' → SOk X.K H0 W0 s W σ' ρ' H → (∀ vs : List Nat, (∀ i ∈ is, i ∈ vs) → wipe σ' vs = wipe σ vs) → Q σ' H) → g v σ H Q
structure DGsx (X : Cx) (tgs : List Expr) (is : List Nat) (dg : List PyData → Env' → (Env' → Prop) → Prop) : Prop where
  ex : ∃ g, PGs X tgs g ∧ ∀ (s : Sc) (H0 : Hp) (W0 W : List Addr) (σ : St) (ρ : Env') (H : Hp) (vs : List V) (ds : List PyData) (R : Env' → Prop) (Q : St → Hp → Prop), SOk X.K H0 W0 s W σ ρ H → DwA X.K H W vs ds → dg ds ρ R →
    (∀ (σ' : St) (ρ' : Env'), R ρ' → SOk X.K H0 W0 s W σ' ρ' H → (∀ vs : List Nat, (∀ i ∈ is, i ∈ vs) → wipe σ' vs = wipe σ vs) → Q σ' H) → g vs σ H Q
theorem wipe_get (σ : St) (i : Nat) : ∀ vs : List Nat, (wipe σ vs)[i]? = if i ∈ vs then (σ[i]?).map fun _ => none else σ[i]?
  | [] => by simp [wipe]
  | v :: vs => by
    unfold wipe
    have ih := wipe_get σ i vs
    by_cases hv : v = i
    · subst hv
      rw [if_pos List.mem_cons_self]
      by_cases hl : v < σ.length
      · rw [List.getElem?_set_self (by rw [wipe_length]; exact hl), List.getElem?_eq_getElem hl]; rfl
      · rw [List.getElem?_eq_none (by simp [wipe_length]; omega), List.getElem?_eq_none (by omega)]; rfl
    · rw [List.getElem?_set_ne hv, ih]
      by_cases h : i ∈ vs
      · rw [if_pos h, if_pos (List.mem_cons_of_mem _ h)]
      · rw [if_neg h, if_neg (by simp only [List.mem_cons, not_or]; exact ⟨fun e => hv e.symm, h⟩)]
theorem wipe_set {σ : St} {i : Nat} {x : Option V} {vs : List Nat} (h : i ∈ vs) : wipe (σ.set i x) vs = wipe σ vs := by
  apply List.ext_getElem?
  intro j
  rw [wipe_get, wipe_get]
  by_cases hj : j ∈ vs
  · rw [if_pos hj, if_pos hj]
    by_cases e : i = j
    · subst e
      by_cases hl : i < σ.length
      · rw [List.getElem?_set_self hl, List.getElem?_eq_getElem hl]; rfl
      · rw [List.getElem?_eq_none (by simp; omega), List.getElem?_eq_none (by omega)]
    · rw [List.getElem?_set_ne e]
  · rw [if_neg hj, if_neg hj, List.getElem?_set_ne (fun e => hj (by subst e; exact h))]
def gN (i : Nat) : DG := fun d ρ R => R (ρ.set i (some (.dat d)))
theorem dg_name {i : Nat} {x : Str} {p : Pos} (h : PG X (.Name x p) (gName i)) : DGx X (.Name x p) [i] (gN i) := by
  refine ⟨_, h, fun s H0 W0 W σ ρ H v d R Q S w hd k => ?_⟩
  exact k _ _ hd (S.set w) fun vs hv => wipe_set (hv i (by simp))
def gNil' : List PyData → Env' → (Env' → Prop) → Prop := fun ds ρ R => match ds with | [] => R ρ | _ => False
def gCons' (g : DG) (r : List PyData → Env' → (Env' → Prop) → Prop) : List PyData → Env' → (Env' → Prop) → Prop := fun ds ρ R => match ds with | d :: ds => g d ρ (fun ρ1 => r ds ρ1 R) | [] => False
theorem dgs_nil : DGsx X [] [] gNil' := by
  refine ⟨_, pgs_nil, fun s H0 W0 W σ ρ H vs ds R Q S w hd k => ?_⟩
  cases w with
  | nil => exact ⟨rfl, k σ ρ hd S fun _ _ => rfl⟩
  | cons a b => exact hd.elim
theorem dgs_cons {t : Expr} {ts : List Expr} {is js : List Nat} {g : DG} {r} (h1 : DGx X t is g) (h2 : DGsx X ts js r) (hs : (assignEach (t :: ts) X.env).map (·.2) = assign t X.env :: (assignEach ts X.env).map (·.2) := by rfl) : DGsx X (t :: ts) (is ++ js) (gCons' g r) := by
  obtain ⟨g1, p, q⟩ := h1.ex
  obtain ⟨g2, p2, q2⟩ := h2.ex
  refine ⟨_, pgs_cons p p2 hs, fun s H0 W0 W σ ρ H vs ds R Q S w hd k => ?_⟩
  cases w with
  | nil => exact hd.elim
  | cons a b =>
    refine ⟨_, _, rfl, q s H0 W0 W σ ρ H _ _ _ _ S a hd fun σ1 ρ1 hd1 S1 e1 => ?_⟩
    refine q2 s H0 W0 W σ1 ρ1 H _ _ R Q S1 b hd1 fun σ2 ρ2 hd2 S2 e2 => ?_
    exact k σ2 ρ2 hd2 S2 fun vs hv => (e2 vs fun i hi => hv i (List.mem_append_right _ hi)).trans (e1 vs fun i hi => hv i (List.mem_append_left _ hi))
/-- (a, b, ..) = a tuple of that length -/
def gT (n : Nat) (g : List PyData → Env' → (Env' → Prop) → Prop) : DG := fun d ρ R => match d with | .tuple ds => ds.length = n ∧ g ds ρ R | _ => False
theorem dg_tup {ts : List Expr} {k n : Nat} {is : List Nat} {g} (hc : X.calm = true) (h : DGsx X ts is g) (hn : (assignEach ts X.env).length = n := by rfl) (hst : (assignEach ts X.env).findIdx? (·.1) = none := by rfl) : DGx X (.Tuple ts k pos) is (gT n g) := by
  obtain ⟨g1, p, q⟩ := h.ex
  refine ⟨_, pg_tup hc p hn hst, fun s H0 W0 W σ ρ H v d R Q S w hd kk => ?_⟩
  cases d with
  | tuple ds =>
    obtain ⟨a, rfl⟩ := w.tupV
    obtain ⟨xs, hs, qq⟩ := w.sqT
    exact ⟨a, xs, rfl, hs, by rw [qq.length]; exact hd.1, q s H0 W0 W σ ρ H xs ds R Q S qq hd.2 kk⟩
  | _ => exact hd.elim
/-! ### assignments -/
def sAsg (a : DE) (g : DG) : DS := fun D ρ Er => a ρ (fun d ρ1 => g d ρ1 D.nx) Er
theorem ds_asg {tg : Expr} {is : List Nat} {g : DG} (ha : DEx X EX e da) (hg : DGx X tg is g) (hs : swapsWithSole [tg] e pos.line X.env = pure false := by rfl) (hw : swappedStores [tg] e X.env = pure none := by rfl)
    (h1 : (assignEach [tg] X.env).map (·.2) = [assign tg X.env] := by rfl) : DSx X EX (.Assign [tg] e pos) (sAsg da g) := by
  obtain ⟨t, p, q⟩ := ha.ex
  obtain ⟨g1, pg, qg⟩ := hg.ex
  refine ⟨_, ps_asg p pg hs hw h1, fun s H0 W0 W σ ρ H D Er E S eo hd k => ?_⟩
  refine q s H0 W0 W σ ρ H _ Er _ S eo hd fun v d W1 ρ1 H1 hd1 s1 e1 S1 w1 => ?_
  exact qg s H0 W0 W1 σ ρ1 H1 v d D.nx _ S1 w1 hd1 fun σ' ρ' h S' _ => k.nx W1 σ' ρ' H1 h (Step.of s1 e1) S'
/-- name = e -/
def sSet (i : Nat) (a : DE) : DS := fun D ρ Er => a ρ (fun d ρ1 => D.nx (ρ1.set i (some (.dat d)))) Er
theorem ds_set {i : Nat} {x : Str} {pos' : Pos} (mk : ∀ te, PE X e te → PS X (.Assign [.Name x pos'] e pos) (tAsg te (gName i))) (ha : DEx X EX e da) : DSx X EX (.Assign [.Name x pos'] e pos) (sSet i da) := by
  obtain ⟨t, p, q⟩ := ha.ex
  refine ⟨_, mk t p, fun s H0 W0 W σ ρ H D Er E S eo hd k => ?_⟩
  refine q s H0 W0 W σ ρ H _ Er _ S eo hd fun v d W1 ρ1 H1 hd1 s1 e1 S1 w1 => ?_
  exact k.nx W1 _ _ H1 hd1 (Step.of s1 e1) (S1.set w1)
/-- a, b = x, y -/
def sPar (i j : Nat) (a : DA) : DS := fun D ρ Er => a ρ (fun ds ρ1 => match ds with | [d, e] => D.nx ((ρ1.set i (some (.dat d))).set j (some (.dat e))) | _ => False) Er
theorem ds_par {i j : Nat} {es : List Expr} {d : DA} (mk : ∀ ta, PA X es ta → PS X st (tPar i j ta)) (ha : DAx X EX es d) : DSx X EX st (sPar i j d) := by
  obtain ⟨t, p, q⟩ := ha.ex
  refine ⟨_, mk t p, fun s H0 W0 W σ ρ H D Er E S eo hd k => ?_⟩
  refine q s H0 W0 W σ ρ H _ Er _ S eo hd fun vs ds W1 ρ1 H1 hd1 s1 e1 S1 w1 => ?_
  split at hd1
  · cases w1 with
    | cons a b => cases b with
      | cons c d => cases d; exact ⟨_, _, rfl, k.nx W1 _ _ H1 hd1 (Step.of s1 e1) ((S1.set a).set c)⟩
  · exact hd1.elim
/-- name += e, of ints -/
def sAug (i : Nat) (f : D2) (a : DE) : DS := fun D ρ Er => match ρ[i]? with
  | some (some (.dat x)) => a ρ (fun y ρ1 => match f x y with | some z => D.nx (ρ1.set i (some (.dat z))) | none => False) Er
  | _ => False
theorem ds_aug_add {i : Nat} {x : Str} {pos' : Pos} (mk : ∀ te, PE X e te → PS X (.AugAssign (.Name x pos') .Add e pos) (tAug i te (ipI fun a b => a + b))) (ha : DEx X EX e da) : DSx X EX (.AugAssign (.Name x pos') .Add e pos) (sAug i (dI2 fun a b => a + b) da) := by
  obtain ⟨t, p, q⟩ := ha.ex
  refine ⟨_, mk t p, fun s H0 W0 W σ ρ H D Er E S eo hd k => ?_⟩
  unfold sAug at hd
  split at hd
  · rename_i d hi
    obtain ⟨v, h1, h2⟩ := S.slot i _ hi
    refine ⟨v, h1, q s H0 W0 W σ ρ H _ Er _ S eo hd fun u d2 W1 ρ1 H1 hd1 s1 e1 S1 w1 => ?_⟩
    split at hd1
    · rename_i z hz
      unfold dI2 at hz
      split at hz
      · cases hz
        cases w1
        have h2' : Dw X.K H W v _ := h2
        cases h2'
        exact ⟨_, _, rfl, rfl, k.nx W1 _ _ H1 hd1 (Step.of s1 e1) (S1.set (.int _))⟩
      · cases hz
    · exact hd1.elim
  · exact hd.elim
end
end DD

/-! What is walked; for, while, comprehensions. -/
namespace DD
open PySem L2
structure ItOk (K : Fg) (J : It) (W : List Addr) (H : Hp) (ds : List PyData) : Prop where
  go : ∀ (j : Nat) (W2 : List Addr) (H2 : Hp) (d : PyData), Step W H W2 H2 → (∀ p, H2 p = none → p ∉ W2) → ds[j]? = some d → J.go j H2 ∧ ∀ x H3, J.yld j H2 x H3 → Same H2 H3 ∧ Dw K H3 W2 x d
  stop : ∀ (j : Nat) (W2 : List Addr) (H2 : Hp), Step W H W2 H2 → ds.length ≤ j → J.stop j H2
abbrev DI := Env' → (List PyData → Env' → Prop) → Er' → Prop
structure DIx (X : Cx) (EX : XK) (tg iter : Expr) (di : DI) : Prop where
  ex : ∃ wi, PI X tg iter wi ∧ ∀ (s : Sc) (H0 : Hp) (W0 W : List Addr) (σ : St) (ρ : Env') (H : Hp) (R : List PyData → Env' → Prop) (Er : Er') (Q : It → Hp → Prop), SOk X.K H0 W0 s W σ ρ H → ErOk X.K H0 W0 s EX Er → di ρ R Er →
    (∀ (J : It) (ds : List PyData) (W' : List Addr) (ρ' : Env') (H' : Hp), R ds ρ' → (∀ x ∈ W', x ∈ W) → Ext W H H' → SOk X.K H0 W0 s W' σ ρ' H' → ItOk X.K J W' H' ds → Q J H') → wi σ H Q
section
variable {X : Cx} {EX : XK} {e tg iter : Expr} {da : DE} {pos : Pos}
/-- a list or a tuple, walked -/
def iSeq (K : Fg) (t : TE) : TI := fun σ H R => t σ H fun x H1 => ∃ a, x = .ref a ∧ (((∃ xs, SqL K H1 a xs) ∧ R (Itl K a) H1) ∨ ((∃ xs, SqT K H1 a xs) ∧ R (Itt K a) H1))
theorem pi_seq {l : Expr} {t : TE} (hl : PE X l t) : PI X tg l (iSeq X.K t) := by
  constructor
  intro pins s σ H R I h
  refine thn (hl.run pins s σ H _ I h) fun v s1 q => ?_
  obtain ⟨x, H1, I1, r1, a, rfl, q⟩ := q
  cases r1
  have fin : ∀ b ∈ [s1.heap.objs.size], FpOk X pins H1 b := fun b hb => by
    have e : b = s1.heap.objs.size := by simpa using hb
    subst e
    exact I1.fpOk (Nat.le_refl _) (I1.hok.fresh (Nat.le_refl _))
  rcases q with ⟨⟨xs, hq⟩, q⟩ | ⟨⟨xs, hq⟩, q⟩
  · obtain ⟨its, rv, p, hz⟩ := I1.list hq
    exact wpAny_pyIter_list p.isList ⟨s1.heap.objs.size, [s1.heap.objs.size], _, _, H1, rfl, I1.kept (t' := s1.toks) fun b o e => Heap.get?_push_of_some _ e, turn_list a _, ⟨_, Heap.get?_push_size _ rfl, rfl, rfl⟩, fin, q⟩
  · obtain ⟨its, rv, p, hz⟩ := I1.tuple hq
    exact wpAny_pyIter_tuple (show s1.heap.IsTuple a its.toArray from p) ⟨s1.heap.objs.size, [s1.heap.objs.size], _, _, H1, rfl, I1.kept (t' := s1.toks) fun b o e => Heap.get?_push_of_some _ e, turn_tuple a _, ⟨_, Heap.get?_push_size _ rfl, rfl, rfl⟩, fin, q⟩
def dSeq (a : DE) : DI := fun ρ R Er => a ρ (fun d ρ1 => match d with | .list ds => R ds ρ1 | .tuple ds => R ds ρ1 | _ => False) Er
theorem sqT_step {K : Fg} {W W' : List Addr} {H H' : Hp} {a : Addr} {ds : List PyData} (st : Step W H W' H') (h : Dw K H W (.ref a) (.tuple ds)) : ∃ xs, SqT K H' a xs ∧ DwA K H' W' xs ds := (st.dw h).sqT
/-- a place's value is one -/
theorem it_list {K : Fg} {W : List Addr} {H : Hp} {a : Addr} {ds : List PyData} (h : Dw K H W (.ref a) (.list ds)) : ItOk K (Itl K a) W H ds := by
  refine ⟨fun j W2 H2 d st _ hj => ?_, fun j W2 H2 st hj => ?_⟩
  · obtain ⟨xs, h1, q⟩ := (st.dw h).sqL
    obtain ⟨v, hv, hd⟩ := q.get hj
    refine ⟨⟨xs, v, h1, hv⟩, fun x H3 y => ?_⟩
    obtain ⟨e, y⟩ := y
    subst e
    have := y xs h1
    rw [hv] at this
    cases this
    exact ⟨Same.refl _, hd⟩
  · obtain ⟨xs, h1, q⟩ := (st.dw h).sqL
    exact ⟨xs, h1, by rw [q.length]; exact hj⟩
theorem it_tup {K : Fg} {W : List Addr} {H : Hp} {a : Addr} {ds : List PyData} (h : Dw K H W (.ref a) (.tuple ds)) : ItOk K (Itt K a) W H ds := by
  refine ⟨fun j W2 H2 d st _ hj => ?_, fun j W2 H2 st hj => ?_⟩
  · obtain ⟨xs, h1, q⟩ := (st.dw h).sqT
    obtain ⟨v, hv, hd⟩ := q.get hj
    refine ⟨⟨xs, v, h1, hv⟩, fun x H3 y => ?_⟩
    obtain ⟨e, y⟩ := y
    subst e
    have := y xs h1
    rw [hv] at this
    cases this
    exact ⟨Same.refl _, hd⟩
  · obtain ⟨xs, h1, q⟩ := (st.dw h).sqT
    exact ⟨xs, h1, by rw [q.length]; exact hj⟩
theorem di_seq (ha : DEx X EX e da) : DIx X EX tg e (dSeq da) := by
  obtain ⟨t, p, q⟩ := ha.ex
  refine ⟨_, pi_seq p, fun s H0 W0 W σ ρ H R Er Q S eo hd k => ?_⟩
  refine q s H0 W0 W σ ρ H _ Er _ S eo hd fun v d W1 ρ1 H1 hd1 s1 e1 S1 w1 => ?_
  cases d with
  | list ds =>
    obtain ⟨a, rfl⟩ := w1.lstV
    obtain ⟨xs, h1, _⟩ := w1.sqL
    exact ⟨a, rfl, .inl ⟨⟨xs, h1⟩, k _ ds W1 ρ1 H1 hd1 s1 e1 S1 (it_list w1)⟩⟩
  | tuple ds =>
    obtain ⟨a, rfl⟩ := w1.tupV
    obtain ⟨xs, h1, _⟩ := w1.sqT
    exact ⟨a, rfl, .inr ⟨⟨xs, h1⟩, k _ ds W1 ρ1 H1 hd1 s1 e1 S1 (it_tup w1)⟩⟩
  | _ => exact hd1.elim
/-- lo, lo + 1, .. -/
def rangeD (lo : Int) (n : Nat) : List PyData := (List.range n).map fun i => .int (lo + (i : Nat))
theorem rangeD_length (lo : Int) (n : Nat) : (rangeD lo n).length = n := by simp [rangeD]
theorem it_range {K : Fg} {W : List Addr} {H : Hp} {lo : Int} {n : Nat} : ItOk K (Itr lo n) W H (rangeD lo n) := by
  refine ⟨fun j W2 H2 d st _ hj => ?_, fun j W2 H2 st hj => by rw [rangeD_length] at hj; exact hj⟩
  have hl : j < n := by
    have := (List.getElem?_eq_some_iff.mp hj).1
    rwa [rangeD_length] at this
  refine ⟨hl, fun x H3 y => ?_⟩
  obtain ⟨e, y⟩ := y
  subst e y
  have : d = .int (lo + (j : Nat)) := by
    unfold rangeD at hj
    rw [List.getElem?_map, List.getElem?_range hl] at hj
    exact (Option.some.inj hj).symm
  subst this
  exact ⟨Same.refl _, .int _⟩
def dRange1 (a : DE) : DI := fun ρ R Er => a ρ (fun d ρ1 => match d with | .int n => -(2 ^ 62) ≤ n ∧ n < 2 ^ 62 ∧ R (rangeD 0 n.toNat) ρ1 | _ => False) Er
def dRange2 (a b : DE) : DI := fun ρ R Er => a ρ (fun d ρ1 => b ρ1 (fun e ρ2 => match d, e with | .int i, .int j => (-(2 ^ 62) ≤ i ∧ i < 2 ^ 62 ∧ -(2 ^ 62) ≤ j ∧ j < 2 ^ 62) ∧ R (rangeD i (j - i).toNat) ρ2 | _, _ => False) Er) Er
theorem di_range1 {a : Expr} {p : Pos} (hg : Gl X "range") (hm : X.mg "range" = none) (ha : DEx X EX a da) (hs : starEach [a] X.env = [(false, eval a X.env)] := by rfl) (hs2 : starEach [a] X.env = (false, eval a X.env) :: starEach [] X.env := by rfl) :
    DIx X EX tg (.Call (.Name "range" p) [a] [] pos) (dRange1 da) := by
  obtain ⟨t, pa, q⟩ := ha.ex
  refine ⟨_, pi_range1 hg hm (pa_cons pa pa_nil hs2) hs, fun s H0 W0 W σ ρ H R Er Q S eo hd k => ?_⟩
  refine q s H0 W0 W σ ρ H _ Er _ S eo hd fun v d W1 ρ1 H1 hd1 s1 e1 S1 w1 => ?_
  split at hd1
  · cases w1
    exact ⟨_, rfl, hd1.1, hd1.2.1, k _ _ W1 ρ1 H1 hd1.2.2 s1 e1 S1 it_range⟩
  · exact hd1.elim
theorem di_range2 {a b : Expr} {db : DE} {p : Pos} (hg : Gl X "range") (hm : X.mg "range" = none) (ha : DEx X EX a da) (hb : DEx X EX b db) (hs : starEach [a, b] X.env = [(false, eval a X.env), (false, eval b X.env)] := by rfl) (hs2 : starEach [b] X.env = [(false, eval b X.env)] := by rfl)
    (h3 : starEach [a, b] X.env = (false, eval a X.env) :: starEach [b] X.env := by rfl) (h4 : starEach [b] X.env = (false, eval b X.env) :: starEach [] X.env := by rfl) :
    DIx X EX tg (.Call (.Name "range" p) [a, b] [] pos) (dRange2 da db) := by
  obtain ⟨t, pa, q⟩ := ha.ex
  obtain ⟨t2, pb, q2⟩ := hb.ex
  refine ⟨_, pi_range2 hg hm (pa_cons pa (pa_cons pb pa_nil h4) h3) hs hs2, fun s H0 W0 W σ ρ H R Er Q S eo hd k => ?_⟩
  refine q s H0 W0 W σ ρ H _ Er _ S eo hd fun v d W1 ρ1 H1 hd1 s1 e1 S1 w1 => ?_
  refine q2 s H0 W0 W1 σ ρ1 H1 _ Er _ S1 eo hd1 fun u e W2 ρ2 H2 hd2 s2 e2 S2 w2 => ?_
  split at hd2
  · cases w1
    cases w2
    exact ⟨_, _, rfl, hd2.1, k _ _ W2 ρ2 H2 hd2.2 (sub_tr s2 s1) (ext_tr e1 e2 s1) S2 it_range⟩
  · exact hd2.elim
/-! ### for -/
def forGo (g : DG) (body : DS) (D : DEnds) (Er : Er') : List PyData → Env' → Prop
  | [], ρ => D.nx ρ
  | d :: r, ρ => g d ρ fun ρ1 => body { nx := forGo g body D Er r, ct := forGo g body D Er r, bk := D.nx, rt := D.rt } ρ1 Er
def sFor (di : DI) (g : DG) (body : DS) : DS := fun D ρ Er => di ρ (fun ds ρ1 => forGo g body D Er ds ρ1) Er
theorem ds_for {body : List Stmt} {di : DI} {is : List Nat} {g : DG} {db : DS} (hp : PassesOwn (model X.prog X.w) X.A X.env X.xe) (hc : X.calm = true) (hi : DIx X EX tg iter di) (hg : DGx X tg is g) (hb : DBx X EX body db)
    (hs : ∀ x, foldedSetIterable iter X.env x = pure x := by intro _; rfl) : DSx X EX (.For tg iter body [] pos) (sFor di g db) := by
  obtain ⟨wi, pi, qi⟩ := hi.ex
  obtain ⟨g1, pg, qg⟩ := hg.ex
  obtain ⟨tb, pb, qb⟩ := hb.ex
  refine ⟨_, ps_for hp hc pi pg pb hs, fun s H0 W0 W σ ρ H D Er E S eo hd k => ?_⟩
  refine qi s H0 W0 W σ ρ H _ Er _ S eo hd fun J ds W1 ρ1 H1 hd1 s1 e1 S1 ok => ?_
  have st0 : Step W H W1 H1 := Step.of s1 e1
  refine ⟨fun i m σ' H' => ∃ W' ρ', i + m = ds.length ∧ Step W1 H1 W' H' ∧ SOk X.K H0 W0 s W' σ' ρ' H' ∧ forGo g db D Er (ds.drop i) ρ', ⟨ds.length, W1, ρ1, by omega, Step.refl _ _, S1, hd1⟩, ?_⟩
  rintro i m σ2 H2 ⟨W2, ρ2, hm, st2, S2, f2⟩
  by_cases hlt : i < ds.length
  · have hdi : ds[i]? = some ds[i] := List.getElem?_eq_getElem hlt
    rw [List.drop_eq_getElem_cons hlt] at f2
    obtain ⟨ok1, ok2⟩ := ok.go i W2 H2 _ st2 (fun p hp => S2.fresh hp) hdi
    refine .inr ⟨ok1, fun σ' H' => ∃ W' ρ', Step W1 H1 W' H' ∧ SOk X.K H0 W0 s W' σ' ρ' H' ∧ forGo g db D Er (ds.drop (i + 1)) ρ', fun σ' H' ⟨W', ρ', a, b, c⟩ => ⟨m - 1, by omega, W', ρ', by omega, a, b, c⟩, fun x H3 y => ?_⟩
    obtain ⟨sm, dx⟩ := ok2 x H3 y
    have S3 := S2.same sm
    refine qg s H0 W0 W2 σ2 ρ2 H3 x _ _ _ S3 dx f2 fun σ4 ρ4 f4 S4 _ => ?_
    have st3 : Step W1 H1 W2 H3 := st2.trans (Step.of (fun _ z => z) (Ext.same sm))
    refine qb s H0 W0 W2 σ4 ρ4 H3 _ Er _ S4 eo f4 ⟨fun W' σ' ρ' H' h st S' => ⟨W', ρ', st3.trans st, S', h⟩, k.rt, fun W' σ' ρ' H' h st S' => k.nx W' σ' ρ' H' h (st0.trans (st3.trans st)) S', fun W' σ' ρ' H' h st S' => ⟨W', ρ', st3.trans st, S', h⟩⟩
  · refine .inl ⟨ok.stop i W2 H2 st2 (by omega), ?_⟩
    rw [List.drop_eq_nil_of_le (by omega)] at f2
    exact k.nx W2 σ2 ρ2 H2 f2 (st0.trans st2) S2
/-! ### while -/
def whileGo (c : DT) (body : DS) (D : DEnds) (Er : Er') : Nat → Env' → Prop
  | 0, _ => False
  | n + 1, ρ => c ρ (fun k ρ1 => match k with
    | true => body { nx := whileGo c body D Er n, ct := whileGo c body D Er n, bk := D.nx, rt := D.rt } ρ1 Er
    | false => D.nx ρ1) Er
def sWhile (c : DT) (body : DS) : DS := fun D ρ Er => ∃ n, whileGo c body D Er n ρ
theorem ds_while {c : Expr} {body : List Stmt} {dc : DT} {db : DS} (hp : PassesOwn (model X.prog X.w) X.A X.env X.xe) (hc : DTx X EX c dc) (hb : DBx X EX body db) : DSx X EX (.While c body [] pos) (sWhile dc db) := by
  obtain ⟨t, p, q⟩ := hc.ex
  obtain ⟨tb, pb, qb⟩ := hb.ex
  refine ⟨_, ps_while hp p pb, fun s H0 W0 W σ ρ H D Er E S eo hd k => ?_⟩
  obtain ⟨n, hd⟩ := hd
  refine ⟨fun m σ' H' => ∃ W' ρ', Step W H W' H' ∧ SOk X.K H0 W0 s W' σ' ρ' H' ∧ whileGo dc db D Er m ρ', ⟨n, W, ρ, Step.refl _ _, S, hd⟩, ?_⟩
  rintro m σ2 H2 ⟨W2, ρ2, st2, S2, f2⟩
  cases m with
  | zero => exact f2.elim
  | succ m =>
    refine q s H0 W0 W2 σ2 ρ2 H2 _ Er _ S2 eo f2 fun b W3 ρ3 H3 hd3 s3 e3 S3 => ?_
    have st3 : Step W H W3 H3 := st2.trans (Step.of s3 e3)
    cases b with
    | true =>
      refine iteT ⟨fun σ' H' => ∃ W' ρ', Step W H W' H' ∧ SOk X.K H0 W0 s W' σ' ρ' H' ∧ whileGo dc db D Er m ρ', fun σ' H' h => ⟨m, Nat.lt_succ_self m, h⟩, ?_⟩
      exact qb s H0 W0 W3 σ2 ρ3 H3 _ Er _ S3 eo hd3 ⟨fun W' σ' ρ' H' h st S' => ⟨W', ρ', st3.trans st, S', h⟩, k.rt, fun W' σ' ρ' H' h st S' => k.nx W' σ' ρ' H' h (st3.trans st) S', fun W' σ' ρ' H' h st S' => ⟨W', ρ', st3.trans st, S', h⟩⟩
    | false => exact iteF (k.nx W3 σ2 ρ3 H3 hd3 st3 S3)
/-! ### comprehensions -/
def wipeD (ρ : Env') : List Nat → Env'
  | [] => ρ
  | v :: vs => (wipeD ρ vs).set v none
theorem wipeD_length (ρ : Env') : ∀ vs : List Nat, (wipeD ρ vs).length = ρ.length
  | [] => rfl
  | v :: vs => by unfold wipeD; rw [List.length_set, wipeD_length ρ vs]
theorem wipeD_get {ρ : Env'} {i : Nat} {d : D} : ∀ {vs : List Nat}, (wipeD ρ vs)[i]? = some (some d) → ρ[i]? = some (some d) ∧ i ∉ vs
  | [], h => ⟨h, by simp⟩
  | v :: vs, h => by
    unfold wipeD at h
    by_cases e : v = i
    · subst e
      by_cases hl : v < (wipeD ρ vs).length
      · rw [List.getElem?_set_self hl] at h; cases h
      · rw [List.getElem?_eq_none (by simpa using hl)] at h; cases h
    · rw [List.getElem?_set_ne e] at h
      obtain ⟨h1, h2⟩ := wipeD_get h
      exact ⟨h1, by simp only [List.mem_cons, not_or]; exact ⟨fun z => e z.symm, h2⟩⟩
theorem SOk.wipe {K : Fg} {H0 H : Hp} {W0 W : List Addr} {s : Sc} {σ : St} {ρ : Env'} (S : SOk K H0 W0 s W σ ρ H) (vs : List Nat) : SOk K H0 W0 s W (L2.wipe σ vs) (wipeD ρ vs) H :=
  S.weak (by rw [L2.wipe_length, wipeD_length, S.len.1]) fun i d h => by
    obtain ⟨h1, h2⟩ := wipeD_get h
    exact ⟨h1, fun v hv => by rw [wipe_get, if_neg h2]; exact hv⟩
theorem SOk.unwipe {K : Fg} {H0 H : Hp} {W0 W : List Addr} {s : Sc} {σ : St} {ρ : Env'} {vs : List Nat} (S : SOk K H0 W0 s W (L2.wipe σ vs) ρ H) (h : ∀ i d, ρ[i]? = some (some d) → i ∉ vs) : SOk K H0 W0 s W σ ρ H :=
  S.weak (by rw [← S.len.1, L2.wipe_length]) fun i d hd => ⟨hd, fun v hv => by rw [wipe_get, if_neg (h i d hd)] at hv; exact hv⟩
/-- a list in the making, at p, seen as the entry's -/
def addH (H0 : Hp) (p : Addr) (o : HO) : Hp := upd H0 p o
theorem SOk.lift {K : Fg} {H0 H : Hp} {W0 W : List Addr} {s : Sc} {σ : St} {ρ : Env'} {p : Addr} {xs : List V} (S : SOk K H0 W0 s W σ ρ H) (hp0 : H0 p = none) (hp : H p = some (.lst xs)) (hw : p ∈ W)
    (hno : ∀ (i : Nat) (ds : List PyData), ρ[i]? = some (some (D.own ds)) → σ[i]? ≠ some (some (V.ref p))) : SOk K (upd H0 p (.lst xs)) (p :: W0) s W σ ρ H := by
  refine ⟨fun a ha => ?_, fun a ha => ?_, fun a ha => ?_, S.tr, fun b o h n => ?_, fun a ha => ?_, ⟨S.tab.1, fun q hq => ?_⟩, fun i d hd => ?_, S.uniq, S.len⟩
  · rcases List.mem_cons.mp ha with rfl | ha
    · exact hw
    · exact S.sub a ha
  · rcases List.mem_cons.mp ha with rfl | ha
    · exact ⟨_, upd_same⟩
    · obtain ⟨o, e⟩ := S.tr0 a ha
      exact ⟨o, by rw [upd_ne (ne_of_none e hp0)]; exact e⟩
  · by_cases e : a = p
    · exact .inl (by simp [e])
    · rcases S.new a ha with q | q
      · exact .inl (List.mem_cons_of_mem _ q)
      · exact .inr (by rw [upd_ne e]; exact q)
  · by_cases e : b = p
    · subst e
      rw [upd_same] at h
      cases h
      exact hp
    · rw [upd_ne e] at h
      exact S.frame b o h n
  · obtain ⟨q1, ⟨o, q2⟩, q3⟩ := S.src a ha
    exact ⟨List.mem_cons_of_mem _ q1, ⟨o, by rw [upd_ne (ne_of_none q2 hp0)]; exact q2⟩, q3⟩
  · obtain ⟨q1, o, q2⟩ := S.tab.2 q hq
    exact ⟨List.mem_cons_of_mem _ q1, o, by rw [upd_ne (ne_of_none q2 hp0)]; exact q2⟩
  · obtain ⟨v, h1, h2⟩ := S.slot i d hd
    refine ⟨v, h1, ?_⟩
    cases d with
    | dat d => exact h2
    | own ds =>
      obtain ⟨a, ys, rfl, r1, r2, r3, r4⟩ := h2
      refine ⟨a, ys, rfl, r1, ?_, r3, r4⟩
      rw [upd_ne (fun e => hno i ds hd (by rw [h1, e]))]
      exact r2
    | src => exact h2
    | scr ns => exact h2
    | obj ob =>
      obtain ⟨a, u, rfl, r1, r2, r3, r4⟩ := h2
      refine ⟨a, u, rfl, r1, ?_, r3, r4⟩
      rw [upd_ne (fun e => r4.ne xs (by rw [e, hp] at r3; exact (Option.some.inj r3).symm))]
      exact r2
theorem SOk.drop {K : Fg} {H0 H : Hp} {W0 W : List Addr} {s : Sc} {σ : St} {ρ : Env'} {p : Addr} {xs : List V} (S : SOk K (upd H0 p (.lst xs)) (p :: W0) s W σ ρ H) (hp0 : H0 p = none) (tr0 : ∀ a ∈ W0, ∃ o, H0 a = some o) (hsp : ¬ s.Has p) (hs0 : ∀ a, s.Has a → a ∈ W0 ∧ ∃ o, H0 a = some o) : SOk K H0 W0 s W σ ρ H ∧ p ∈ W ∧ H p = some (.lst xs) ∧ ∀ (i : Nat) (ds : List PyData), ρ[i]? = some (some (D.own ds)) → σ[i]? ≠ some (some (V.ref p)) := by
  refine ⟨⟨fun a ha => S.sub a (List.mem_cons_of_mem _ ha), tr0, fun a ha => ?_, S.tr, fun b o h n => S.frame b o (by rw [upd_ne (ne_of_none h hp0)]; exact h) n, fun a ha => ⟨(hs0 a (.inl ha)).1, (hs0 a (.inl ha)).2, (S.src a ha).2.2⟩, ⟨S.tab.1, fun q hq => hs0 q.1 (.inr ⟨q, hq, rfl⟩)⟩, fun i d hd => ?_, S.uniq, S.len⟩, S.sub p List.mem_cons_self, S.frame p _ upd_same hsp, fun i ds hi e => ?_⟩
  · rcases S.new a ha with q | q
    · rcases List.mem_cons.mp q with rfl | q
      · exact .inr hp0
      · exact .inl q
    · refine .inr ?_
      by_cases e : a = p
      · subst e; exact hp0
      · rw [upd_ne e] at q; exact q
  · obtain ⟨v, h1, h2⟩ := S.slot i d hd
    refine ⟨v, h1, ?_⟩
    cases d with
    | dat d => exact h2
    | own ds =>
      obtain ⟨a, ys, rfl, r1, r2, r3, r4⟩ := h2
      refine ⟨a, ys, rfl, r1, ?_, r3, r4⟩
      by_cases e : a = p
      · subst e; exact hp0
      · rw [upd_ne e] at r2; exact r2
    | src => exact h2
    | scr ns => exact h2
    | obj ob =>
      obtain ⟨a, u, rfl, r1, r2, r3, r4⟩ := h2
      refine ⟨a, u, rfl, r1, ?_, r3, r4⟩
      by_cases e : a = p
      · subst e; exact hp0
      · rw [upd_ne e] at r2; exact r2
  · obtain ⟨v, h1, a, ys, rfl, r1, r2, r3, r4⟩ := S.slot i _ hi
    rw [e] at h1
    cases h1
    rw [upd_same] at r2
    cases r2
def noEr : Er' := ⟨fun _ _ => False, []⟩
theorem erOk_no {K : Fg} {H0 : Hp} {W0 : List Addr} {s : Sc} {EX : XK} : ErOk K H0 W0 s EX noEr := ⟨fun _ h => (by cases h), fun _ _ _ _ _ h => h.elim⟩
def lcGo (g : DG) (tt : DT) (te : DE) (own : List Nat) (R : List PyData → Env' → Prop) : List PyData → List PyData → Env' → Prop
  | [], acc, ρ => R acc ρ
  | d :: r, acc, ρ => g d ρ fun ρ1 => tt ρ1 (fun k ρ2 => match k with
    | true => te ρ2 (fun v ρ3 => acc.length < big ∧ lcGo g tt te own R r (acc ++ [v]) (wipeD ρ3 own)) noEr
    | false => lcGo g tt te own R r acc (wipeD ρ2 own)) noEr
def dLc (di : DI) (g : DG) (tt : DT) (te : DE) (own : List Nat) : DE := fun ρ R Er => di ρ (fun ds ρ1 => lcGo g tt te own (fun acc ρ2 => R (.list acc) ρ2) ds [] (wipeD ρ1 own)) Er
structure DTsx (X : Cx) (EX : XK) (ifs : List Expr) (dt : DT) : Prop where
  ex : ∃ t, PTs X ifs t ∧ ∀ (s : Sc) (H0 : Hp) (W0 W : List Addr) (σ : St) (ρ : Env') (H : Hp) (R : Bool → Env' → Prop) (Er : Er') (Q : Bool → Hp → Prop), SOk X.K H0 W0 s W σ ρ H → ErOk X.K H0 W0 s EX Er → dt ρ R Er → BkT X.K H0 W0 s W σ H R Q → t σ H Q
def dYes : DT := fun ρ R _ => R true ρ
theorem dts_nil : DTsx X EX [] dYes := ⟨_, pts_nil, fun s H0 W0 W σ ρ H R Er Q S eo hd k => k true W ρ H hd (fun _ z => z) (Ext.refl _ _) S⟩
theorem dts_one {c : Expr} {dc : DT} (h : DTx X EX c dc) : DTsx X EX [c] dc := by
  obtain ⟨t, p, q⟩ := h.ex
  exact ⟨t, pts_one p, q⟩
end
end DD

/-! Comprehensions; lists of a def's own; a def by its body. -/
namespace DD
open PySem L2
section
variable {X : Cx} {EX : XK} {e tg iter elt : Expr} {da : DE} {pos : Pos}
/-- [elt for tg in iter if ..] -/
theorem lc_sound {wi : TI} {g1 : TG} {tt1 : TT} {te1 : TE} {own : List Nat} {di : DI} {is : List Nat} {g : DG} {tt : DT} {te : DE}
    (qi : ∀ (s : Sc) (H0 : Hp) (W0 W : List Addr) (σ : St) (ρ : Env') (H : Hp) (R : List PyData → Env' → Prop) (Er : Er') (Q : It → Hp → Prop), SOk X.K H0 W0 s W σ ρ H → ErOk X.K H0 W0 s EX Er → di ρ R Er →
      (∀ (J : It) (ds : List PyData) (W' : List Addr) (ρ' : Env') (H' : Hp), R ds ρ' → (∀ x ∈ W', x ∈ W) → Ext W H H' → SOk X.K H0 W0 s W' σ ρ' H' → ItOk X.K J W' H' ds → Q J H') → wi σ H Q)
    (qg : ∀ (s : Sc) (H0 : Hp) (W0 W : List Addr) (σ : St) (ρ : Env') (H : Hp) (v : V) (d : PyData) (R : Env' → Prop) (Q : St → Hp → Prop), SOk X.K H0 W0 s W σ ρ H → Dw X.K H W v d → g d ρ R →
      (∀ (σ' : St) (ρ' : Env'), R ρ' → SOk X.K H0 W0 s W σ' ρ' H → (∀ vs : List Nat, (∀ i ∈ is, i ∈ vs) → wipe σ' vs = wipe σ vs) → Q σ' H) → g1 v σ H Q)
    (qt : ∀ (s : Sc) (H0 : Hp) (W0 W : List Addr) (σ : St) (ρ : Env') (H : Hp) (R : Bool → Env' → Prop) (Er : Er') (Q : Bool → Hp → Prop), SOk X.K H0 W0 s W σ ρ H → ErOk X.K H0 W0 s E0 Er → tt ρ R Er → BkT X.K H0 W0 s W σ H R Q → tt1 σ H Q)
    (qe : ∀ (s : Sc) (H0 : Hp) (W0 W : List Addr) (σ : St) (ρ : Env') (H : Hp) (R : PyData → Env' → Prop) (Er : Er') (Q : VK), SOk X.K H0 W0 s W σ ρ H → ErOk X.K H0 W0 s E0 Er → te ρ R Er → Bk X.K H0 W0 s W σ H R Q → te1 σ H Q)
    (his : ∀ i ∈ is, i ∈ own) (s : Sc) (H0 : Hp) (W0 W : List Addr) (σ : St) (ρ : Env') (H : Hp) (R : PyData → Env' → Prop) (Er : Er') (Q : VK) (S : SOk X.K H0 W0 s W σ ρ H) (eo : ErOk X.K H0 W0 s EX Er) (hd : dLc di g tt te own ρ R Er)
    (k : ∀ (p : Addr) (xs : List V) (ds : List PyData) (W' : List Addr) (ρ' : Env') (H' : Hp), R (.list ds) ρ' → (∀ x ∈ W', x ∈ p :: W) → Ext W H H' → SOk X.K H0 W0 s W' σ ρ' H' → Step W H W' H' → p ∈ W' → H0 p = none → H' p = some (.lst xs) → DwA X.K H' W' xs ds →
      (∀ (i : Nat) (es : List PyData), ρ'[i]? = some (some (D.own es)) → σ[i]? ≠ some (some (V.ref p))) → Q (.ref p) H') :
    tLc wi g1 tt1 te1 own σ H Q := by
  refine qi s H0 W0 W σ ρ H _ Er _ S eo hd fun J ds W1 ρ1 H1 hd1 s1 e1 S1 ok => ?_
  intro p hp
  have hp0 := S1.fresh0 hp
  have S2 : SOk X.K H0 W0 s (p :: W1) σ ρ1 (upd H1 p (.lst [])) := by
    have S2 := S1.alloc (o := .lst []) hp
    refine ⟨fun a ha => List.mem_cons_of_mem _ (S2.sub a ha), S2.tr0, fun a ha => ?_, fun a ha => ?_, S2.frame, S2.src, S2.tab, fun i d h => ?_, S2.uniq, S2.len⟩
    · rcases List.mem_cons.mp ha with rfl | ha
      · exact .inr hp0
      · exact S2.new a ha
    · rcases List.mem_cons.mp ha with rfl | ha
      · exact ⟨_, upd_same⟩
      · exact S2.tr a ha
    · obtain ⟨v, h1, h2⟩ := S1.slot i d h
      refine ⟨v, h1, ?_⟩
      cases d with
      | dat d => exact Dw.new hp h2
      | own ds =>
        obtain ⟨a, ys, rfl, r1, r2, r3, r4⟩ := h2
        exact ⟨a, ys, rfl, List.mem_cons_of_mem _ r1, r2, by rw [upd_ne (ne_of_none r3 hp)]; exact r3, DwA.new hp r4⟩
      | src => exact h2
      | scr ns =>
        obtain ⟨a, rfl, q⟩ := h2
        exact ⟨a, rfl, q.go fun o n h => ⟨by rw [upd_ne (ne_of_none h hp)]; exact h, by simp only [List.mem_cons, not_or]; exact ⟨ne_of_none h hp, n⟩⟩⟩
      | obj ob =>
        obtain ⟨a, u, rfl, r1, r2, r3, r4⟩ := h2
        exact ⟨a, u, rfl, List.mem_cons_of_mem _ r1, r2, by rw [upd_ne (ne_of_none r3 hp)]; exact r3, OdAt.new hp r4⟩
  have no0 : ∀ (i : Nat) (es : List PyData), ρ1[i]? = some (some (D.own es)) → σ[i]? ≠ some (some (V.ref p)) := fun i es h e => by
    obtain ⟨v, h1, a, ys, rfl, r1, r2, r3, r4⟩ := S1.slot i _ h
    rw [e] at h1
    cases h1
    rw [hp] at r3
    cases r3
  have hs0 : ∀ a, s.Has a → a ∈ W0 ∧ ∃ o, H0 a = some o := S1.has
  have hsp : ¬ s.Has p := fun e => by
    obtain ⟨o, q⟩ := S1.tr p (S1.sub p (hs0 p e).1)
    rw [hp] at q
    cases q
  have st0 : Step W H W1 H1 := Step.of s1 e1
  have st1 : Step W1 H1 (p :: W1) (upd H1 p (.lst [])) := ⟨Ext.same (same_upd hp), fun x hx => by
    rcases List.mem_cons.mp hx with rfl | hx
    · exact .inr hp
    · exact .inl hx⟩
  have fin : ∀ (W2 : List Addr) (H2 : Hp), Ext (p :: W1) (upd H1 p (.lst [])) H2 → Ext W1 H1 H2 := fun W2 H2 e b o n h => e b o (n.imp (fun n => by simp only [List.mem_cons, not_or]; exact ⟨ne_of_none h hp, n⟩) id) (by rw [upd_ne (ne_of_none h hp)]; exact h)
  refine ⟨fun i m H' => ∃ W' acc xs ρ', i + m = ds.length ∧ (∀ x ∈ W', x ∈ p :: W1) ∧ Ext (p :: W1) (upd H1 p (.lst [])) H' ∧ p ∈ W' ∧ H' p = some (.lst xs) ∧ DwA X.K H' W' xs acc ∧ SOk X.K H0 W0 s W' (wipe σ own) ρ' H' ∧
      (∀ i d, ρ'[i]? = some (some d) → i ∉ own) ∧ (∀ (i : Nat) (es : List PyData), ρ'[i]? = some (some (D.own es)) → σ[i]? ≠ some (some (V.ref p))) ∧ lcGo g tt te own (fun acc ρ2 => R (.list acc) ρ2) (ds.drop i) acc ρ',
    ⟨ds.length, p :: W1, [], [], wipeD ρ1 own, by omega, fun _ z => z, Ext.refl _ _, List.mem_cons_self, upd_same, .nil, S2.wipe own, fun i d h => (wipeD_get h).2, fun i es h => no0 i es (wipeD_get h).1, hd1⟩, ?_⟩
  rintro i m H2 ⟨W2, acc, xs, ρ2, hm, sb2, ex2, pw2, hp2, qa2, S3, nw2, no2, f2⟩
  have st2 : Step (p :: W1) (upd H1 p (.lst [])) W2 H2 := Step.of sb2 ex2
  by_cases hlt : i < ds.length
  · have hdi : ds[i]? = some ds[i] := List.getElem?_eq_getElem hlt
    rw [List.drop_eq_getElem_cons hlt] at f2
    obtain ⟨ok1, ok2⟩ := ok.go i W2 H2 _ (st1.trans st2) (fun p hp => S3.fresh hp) hdi
    refine .inr ⟨ok1, fun H' => ∃ W' acc xs ρ', (∀ x ∈ W', x ∈ p :: W1) ∧ Ext (p :: W1) (upd H1 p (.lst [])) H' ∧ p ∈ W' ∧ H' p = some (.lst xs) ∧ DwA X.K H' W' xs acc ∧ SOk X.K H0 W0 s W' (wipe σ own) ρ' H' ∧
      (∀ i d, ρ'[i]? = some (some d) → i ∉ own) ∧ (∀ (i : Nat) (es : List PyData), ρ'[i]? = some (some (D.own es)) → σ[i]? ≠ some (some (V.ref p))) ∧ lcGo g tt te own (fun acc ρ2 => R (.list acc) ρ2) (ds.drop (i + 1)) acc ρ',
      fun H' h => ?_, fun x H3 y => ?_⟩
    · obtain ⟨W', acc', xs', ρ', h⟩ := h
      exact ⟨m - 1, by omega, W', acc', xs', ρ', by omega, h⟩
    · obtain ⟨sm, dx⟩ := ok2 x H3 y
      have hp3 : H3 p = some (.lst xs) := sm p _ hp2
      have S4 := (S3.same sm).lift hp0 hp3 pw2 fun i es h e => no2 i es h (by rw [wipe_get] at e; split at e; · cases hq : σ[i]? <;> rw [hq] at e <;> cases e
                                                                              · exact e)
      refine qg s _ _ W2 (wipe σ own) ρ2 H3 x _ _ _ S4 dx f2 fun σ5 ρ5 f5 S5 w5 => ?_
      refine ⟨(w5 own his).trans (List.ext_getElem? fun j => by rw [wipe_get, wipe_get]; split <;> rename_i hj; · cases σ[j]? <;> rfl
                                                                · rfl), ?_⟩
      have wS : wipe σ5 own = wipe σ own := (w5 own his).trans (List.ext_getElem? fun j => by rw [wipe_get, wipe_get]; split <;> rename_i hj; · cases σ[j]? <;> rfl
                                                                                              · rfl)
      refine qt s _ _ W2 σ5 ρ5 H3 _ noEr _ S5 erOk_no f5 fun b W6 ρ6 H6 f6 s6 e6 S6 => ?_
      have ex6 : Ext (p :: W1) (upd H1 p (.lst [])) H6 := (ex2.trans (Ext.same sm)).trans (e6.sub sb2)
      cases b with
      | true =>
        refine iteT (qe s _ _ W6 σ5 ρ6 H6 _ noEr _ S6 erOk_no f6 fun v dv W7 ρ7 H7 f7 s7 e7 S7 w7 => ?_)
        obtain ⟨S8, pw8, hp8, no8⟩ := S7.drop hp0 S1.tr0 hsp hs0
        have ex7 : Ext (p :: W1) (upd H1 p (.lst [])) H7 := ex6.trans (e7.sub fun x hx => sb2 x (s6 x hx))
        have qa7 : DwA X.K H7 W7 xs acc := ((Step.of (fun _ z => z) (Ext.same sm) : Step W2 H2 W2 H3).trans ((Step.of s6 e6).trans (Step.of s7 e7))).dwA qa2
        refine ⟨xs, hp8, Nat.lt_of_lt_of_le (by rw [qa7.length]; exact f7.1) (big_le (Nat.le_refl _)), ?_⟩
        -- the list has one more
        have exu : Ext W7 H7 (upd H7 p (.lst (xs ++ [v]))) := Ext.one hp8 pw8 (fun _ z => by cases z)
        have S9 : SOk X.K H0 W0 s W7 σ5 ρ7 (upd H7 p (.lst (xs ++ [v]))) := by
          refine ⟨S8.sub, S8.tr0, S8.new, fun a ha => ?_, fun b o h n => ?_, fun a ha => ⟨(S8.src a ha).1, (S8.src a ha).2.1, ?_⟩, ⟨tabs_upd S8.tab.1 hp8, S8.tab.2⟩, fun j d hj => ?_, S8.uniq, S8.len⟩
          · by_cases e : a = p
            · rw [e]; exact ⟨_, upd_same⟩
            · rw [upd_ne e]; exact S8.tr a ha
          · rw [upd_ne (ne_of_none h hp0)]; exact S8.frame b o h n
          · exact (S8.src a ha).2.2.stay fun o h => by rw [upd_ne (fun e => hsp (.inl (by rw [ha, e])))]; exact h
          · obtain ⟨u, h1, h2⟩ := S8.slot j d hj
            refine ⟨u, h1, ?_⟩
            cases d with
            | dat d => exact h2.to exu fun _ z => z
            | own es =>
              obtain ⟨a, ys, rfl, r1, r2, r3, r4⟩ := h2
              exact ⟨a, ys, rfl, r1, r2, by rw [upd_ne (fun e => no8 j es hj (by rw [h1, e]))]; exact r3, r4.to exu fun _ z => z⟩
            | src => exact h2
            | scr ns =>
              obtain ⟨a, rfl, q⟩ := h2
              exact ⟨a, rfl, q.go fun o n h => ⟨exu.un n h, n⟩⟩
            | obj ob =>
              obtain ⟨a, u, rfl, r1, r2, r3, r4⟩ := h2
              exact ⟨a, u, rfl, r1, r2, by rw [upd_ne (fun e => r4.ne _ (by rw [e] at r3; exact (Option.some.inj (r3.symm.trans hp8))))]; exact r3, r4.to exu fun _ z => z⟩
        have S10 := S9.wipe own
        rw [wS] at S10
        refine ⟨W7, acc ++ [dv], xs ++ [v], wipeD ρ7 own, fun x hx => sb2 x (s6 x (s7 x hx)), fun b o n h => ?_, pw8, upd_same, (qa7.append (.cons w7 .nil)).to exu fun _ z => z, S10, fun j d h => (wipeD_get h).2, fun j es h e => ?_, f7.2⟩
        · exact exu.trans (Ext.refl _ _) b o (n.imp (fun n z => n (sb2 b (s6 b (s7 b z)))) id) (ex7 b o n h)
        · obtain ⟨h1, h2⟩ := wipeD_get h
          refine no8 j es h1 ?_
          have := congrArg (fun l => l[j]?) wS
          simp only [wipe_get, if_neg h2] at this
          rw [this]; exact e
      | false =>
        obtain ⟨S8, pw8, hp8, no8⟩ := S6.drop hp0 S1.tr0 hsp hs0
        have qa7 : DwA X.K H6 W6 xs acc := ((Step.of (fun _ z => z) (Ext.same sm) : Step W2 H2 W2 H3).trans (Step.of s6 e6)).dwA qa2
        have S10 := S8.wipe own
        rw [wS] at S10
        refine iteF ⟨W6, acc, xs, wipeD ρ6 own, fun x hx => sb2 x (s6 x hx), ex6, pw8, hp8, qa7, S10, fun j d h => (wipeD_get h).2, fun j es h e => ?_, f6⟩
        obtain ⟨h1, h2⟩ := wipeD_get h
        refine no8 j es h1 ?_
        have := congrArg (fun l => l[j]?) wS
        simp only [wipe_get, if_neg h2] at this
        rw [this]; exact e
  · refine .inl ⟨ok.stop i W2 H2 (st1.trans st2) (by omega), ?_⟩
    rw [List.drop_eq_nil_of_le (by omega)] at f2
    have S4 := S3.unwipe nw2
    refine k p xs acc W2 ρ2 H2 f2 (fun x hx => ?_) (ext_tr e1 (fin W2 H2 ex2) s1) S4 (st0.trans (st1.trans st2)) pw2 hp0 hp2 qa2 no2
    rcases List.mem_cons.mp (sb2 x hx) with e | hx
    · exact List.mem_cons.mpr (.inl e)
    · exact List.mem_cons_of_mem _ (s1 x hx)
end
end DD

/-! Comprehensions as expressions and as own lists; a def by its body. -/
namespace DD
open PySem L2
section
variable {X : Cx} {EX : XK} {e tg iter elt : Expr} {da : DE} {pos : Pos}
/-- the ends of a comprehension: nobody owns the list -/
theorem lc_done {K : Fg} {H0 H' : Hp} {W0 W W' : List Addr} {s : Sc} {σ : St} {ρ' : Env'} {p : Addr} {xs : List V} {ds : List PyData} (sb : ∀ x ∈ W', x ∈ p :: W) (S : SOk K H0 W0 s W' σ ρ' H') (pw : p ∈ W') (hp0 : H0 p = none) (hp : H' p = some (.lst xs)) (q : DwA K H' W' xs ds)
    (no : ∀ (i : Nat) (es : List PyData), ρ'[i]? = some (some (D.own es)) → σ[i]? ≠ some (some (V.ref p))) :
    ∃ W2, (∀ x ∈ W2, x ∈ W) ∧ SOk K H0 W0 s W2 σ ρ' H' ∧ Dw K H' W2 (.ref p) (.list ds) := by
  have sub' : ∀ x ∈ W'.filter (fun b => decide (b ≠ p)), x ∈ W' := fun x hx => (List.mem_filter.mp hx).1
  have np : p ∉ W'.filter (fun b => decide (b ≠ p)) := fun z => by
    have := (List.mem_filter.mp z).2
    simp at this
  have p0 : p ∉ W0 := fun z => by
    obtain ⟨o, e⟩ := S.tr0 p z
    rw [hp0] at e; cases e
  refine ⟨W'.filter fun b => decide (b ≠ p), fun x hx => ?_, ⟨fun x hx => List.mem_filter.mpr ⟨S.sub x hx, by simp; rintro rfl; exact p0 hx⟩, S.tr0, fun x hx => S.new x (sub' x hx), fun x hx => S.tr x (sub' x hx), S.frame, S.src, S.tab, fun j d hj => ?_, S.uniq, S.len⟩, .lst np hp (q.to (Ext.refl _ _) sub')⟩
  · rcases List.mem_cons.mp (sb x (sub' x hx)) with e | h
    · subst e; exact absurd hx np
    · exact h
  · obtain ⟨v, e1, e2⟩ := S.slot j d hj
    refine ⟨v, e1, ?_⟩
    cases d with
    | dat d => exact e2.to (Ext.refl _ _) sub'
    | own es =>
      obtain ⟨b, ys, rfl, r1, r2, r3, r4⟩ := e2
      exact ⟨b, ys, rfl, List.mem_filter.mpr ⟨r1, by simp; rintro rfl; exact no j es hj e1⟩, r2, r3, r4.to (Ext.refl _ _) sub'⟩
    | src => exact e2
    | scr ns =>
      obtain ⟨b, rfl, q⟩ := e2
      exact ⟨b, rfl, q.go fun o n h => ⟨h, fun z => n (sub' _ z)⟩⟩
    | obj ob =>
      obtain ⟨b, u, rfl, r1, r2, r3, r4⟩ := e2
      exact ⟨b, u, rfl, List.mem_filter.mpr ⟨r1, by simp; rintro rfl; rw [hp] at r3; exact r4.ne _ (Option.some.inj r3).symm⟩, r2, r3, r4.to (Ext.refl _ _) sub'⟩
abbrev BlkX (X : Cx) (scope : Scope) (s : Shared) (H : Hp) (C : Addr) (cl : List (Str × Addr)) (fp : List Addr) : Cx := X.blk s H scope (compEnvC scope cl C X.env) fp
theorem de_lc {ifs : List Expr} {scope : Scope} {own : List (Str × Nat)} {di : DI} {is : List Nat} {g : DG} {tt : DT} {te : DE} {g1 : TG} {tt1 : TT} {te1 : TE} (hc : X.calm = true) (hN : X.N.Nodup) (hi : DIx X EX tg iter di) (ok : BlkOk X.N X.env.scope scope own)
    (hg : ∀ (s : Shared) (H : Hp) (C : Addr) (cl : List (Str × Addr)) (fp : List Addr), PG (BlkX X scope s H C cl fp) tg g1) (ht : ∀ (s : Shared) (H : Hp) (C : Addr) (cl : List (Str × Addr)) (fp : List Addr), PTs (BlkX X scope s H C cl fp) ifs tt1)
    (he : ∀ (s : Shared) (H : Hp) (C : Addr) (cl : List (Str × Addr)) (fp : List Addr), PE (BlkX X scope s H C cl fp) elt te1)
    (qg : ∀ (s : Sc) (H0 : Hp) (W0 W : List Addr) (σ : St) (ρ : Env') (H : Hp) (v : V) (d : PyData) (R : Env' → Prop) (Q : St → Hp → Prop), SOk X.K H0 W0 s W σ ρ H → Dw X.K H W v d → g d ρ R →
      (∀ (σ' : St) (ρ' : Env'), R ρ' → SOk X.K H0 W0 s W σ' ρ' H → (∀ vs : List Nat, (∀ i ∈ is, i ∈ vs) → wipe σ' vs = wipe σ vs) → Q σ' H) → g1 v σ H Q)
    (qt : ∀ (s : Sc) (H0 : Hp) (W0 W : List Addr) (σ : St) (ρ : Env') (H : Hp) (R : Bool → Env' → Prop) (Er : Er') (Q : Bool → Hp → Prop), SOk X.K H0 W0 s W σ ρ H → ErOk X.K H0 W0 s E0 Er → tt ρ R Er → BkT X.K H0 W0 s W σ H R Q → tt1 σ H Q)
    (qe : ∀ (s : Sc) (H0 : Hp) (W0 W : List Addr) (σ : St) (ρ : Env') (H : Hp) (R : PyData → Env' → Prop) (Er : Er') (Q : VK), SOk X.K H0 W0 s W σ ρ H → ErOk X.K H0 W0 s E0 Er → te ρ R Er → Bk X.K H0 W0 s W σ H R Q → te1 σ H Q)
    (his : ∀ i ∈ is, i ∈ own.map (·.2)) (hs : ∀ x, foldedSetIterable iter X.env x = pure x := by intro _; rfl) : DEx X EX (.ListComp elt [⟨tg, iter, ifs, 0⟩] scope pos) (dLc di g tt te (own.map (·.2))) := by
  obtain ⟨wi, pi, qi⟩ := hi.ex
  refine ⟨_, pe_lc hc hN pi ok hg ht he hs, fun s H0 W0 W σ ρ H R Er Q S eo hd k => ?_⟩
  refine lc_sound (X := X) (EX := EX) qi qg qt qe his s H0 W0 W σ ρ H R Er Q S eo hd fun p xs ds W' ρ' H' hR sb ex S' st pw hp0 hp q no => ?_
  obtain ⟨W2, s2, S2, w2⟩ := lc_done sb S' pw hp0 hp q no
  exact k _ _ W2 ρ' H' hR s2 ex S2 w2
/-! ### lists of one's own -/
/-- a slot takes a new list -/
theorem SOk.setOwn {K : Fg} {H0 H : Hp} {W0 W : List Addr} {s : Sc} {σ : St} {ρ : Env'} {p : Addr} {xs : List V} {ds : List PyData} (S : SOk K H0 W0 s W σ ρ H) {i : Nat} (pw : p ∈ W) (hp0 : H0 p = none) (hp : H p = some (.lst xs)) (q : DwA K H W xs ds)
    (no : ∀ (j : Nat) (es : List PyData), ρ[j]? = some (some (D.own es)) → σ[j]? ≠ some (some (V.ref p))) (i0 : 0 < i) : SOk K H0 W0 s W (σ.set i (some (.ref p))) (ρ.set i (some (.own ds))) H := by
  refine ⟨S.sub, S.tr0, S.new, S.tr, S.frame, S.src, S.tab, fun j e hj => ?_, fun j k u es fs h1 h2 h3 h4 => ?_, by simp [S.len.1], fun b hb es h0 => ?_⟩
  · by_cases z : i = j
    · subst z
      have hi : i < ρ.length := by simpa using (List.getElem?_eq_some_iff.mp hj).1
      rw [List.getElem?_set_self hi] at hj
      cases hj
      exact ⟨_, by rw [List.getElem?_set_self (by rw [S.len.1]; exact hi)], p, xs, rfl, pw, hp0, hp, q⟩
    · rw [List.getElem?_set_ne z] at hj
      rw [List.getElem?_set_ne z]
      exact S.slot j e hj
  · by_cases a1 : i = j
    · by_cases a2 : i = k
      · exact a1.symm.trans a2
      · subst a1
        have hi : i < σ.length := by simpa using (List.getElem?_eq_some_iff.mp h3).1
        rw [List.getElem?_set_self hi] at h3
        cases h3
        rw [List.getElem?_set_ne a2] at h2 h4
        exact absurd h4 (no k fs h2)
    · rw [List.getElem?_set_ne a1] at h1 h3
      by_cases a2 : i = k
      · subst a2
        have hi : i < σ.length := by simpa using (List.getElem?_eq_some_iff.mp h4).1
        rw [List.getElem?_set_self hi] at h4
        cases h4
        exact absurd h3 (no j es h1)
      · rw [List.getElem?_set_ne a2] at h2 h4
        exact S.uniq j k u es fs h1 h2 h3 h4
  · have a1 : i ≠ 0 := by omega
    rw [List.getElem?_set_ne a1] at h0 ⊢
    exact S.len.2 b hb es h0
/-- a new list comes into being, somebody's -/
theorem SOk.newOwn {K : Fg} {H0 H : Hp} {W0 W : List Addr} {s : Sc} {σ : St} {ρ : Env'} (S : SOk K H0 W0 s W σ ρ H) {p : Addr} {xs : List V} (hp : H p = none) : SOk K H0 W0 s (p :: W) σ ρ (L2.upd H p (.lst xs)) ∧
    (∀ (j : Nat) (es : List PyData), ρ[j]? = some (some (D.own es)) → σ[j]? ≠ some (some (V.ref p))) := by
  have S2 := S.alloc (o := .lst xs) hp
  refine ⟨⟨fun a ha => List.mem_cons_of_mem _ (S2.sub a ha), S2.tr0, fun a ha => ?_, fun a ha => ?_, S2.frame, S2.src, S2.tab, fun i d h => ?_, S2.uniq, S2.len⟩, fun i es h e => ?_⟩
  · rcases List.mem_cons.mp ha with rfl | ha
    · exact .inr (S.fresh0 hp)
    · exact S2.new a ha
  · rcases List.mem_cons.mp ha with rfl | ha
    · exact ⟨_, upd_same⟩
    · exact S2.tr a ha
  · obtain ⟨v, h1, h2⟩ := S.slot i d h
    refine ⟨v, h1, ?_⟩
    cases d with
    | dat d => exact Dw.new hp h2
    | own ds =>
      obtain ⟨a, ys, rfl, r1, r2, r3, r4⟩ := h2
      exact ⟨a, ys, rfl, List.mem_cons_of_mem _ r1, r2, by rw [upd_ne (ne_of_none r3 hp)]; exact r3, DwA.new hp r4⟩
    | src => exact h2
    | scr ns =>
      obtain ⟨a, rfl, q⟩ := h2
      exact ⟨a, rfl, q.go fun o n h => ⟨by rw [upd_ne (ne_of_none h hp)]; exact h, by simp only [List.mem_cons, not_or]; exact ⟨ne_of_none h hp, n⟩⟩⟩
    | obj ob =>
      obtain ⟨a, u, rfl, r1, r2, r3, r4⟩ := h2
      exact ⟨a, u, rfl, List.mem_cons_of_mem _ r1, r2, by rw [upd_ne (ne_of_none r3 hp)]; exact r3, OdAt.new hp r4⟩
  · obtain ⟨v, h1, a, ys, rfl, r1, r2, r3, r4⟩ := S.slot i _ h
    rw [e] at h1
    cases h1
    rw [hp] at r3
    cases r3
theorem step_new {W : List Addr} {H : Hp} {p : Addr} {o : HO} (hp : H p = none) : Step W H (p :: W) (L2.upd H p o) := ⟨Ext.same (same_upd hp), fun x hx => by
  rcases List.mem_cons.mp hx with rfl | hx
  · exact .inr hp
  · exact .inl hx⟩
/-- name = [a, ..], the def's own list -/
def sSetO (i : Nat) (a : DA) : DS := fun D ρ Er => a ρ (fun ds ρ1 => ds.length ≤ big ∧ D.nx (ρ1.set i (some (.own ds)))) Er
theorem ds_setO {i : Nat} {x : Str} {pos' p2 : Pos} {es : List Expr} {d : DA} (mk : ∀ te, PE X (.List es p2) te → PS X (.Assign [.Name x pos'] (.List es p2) pos) (tAsg te (gName i))) (ha : DAx X EX es d) (i0 : 0 < i := by decide) : DSx X EX (.Assign [.Name x pos'] (.List es p2) pos) (sSetO i d) := by
  obtain ⟨t, p, q⟩ := ha.ex
  refine ⟨_, mk _ (pe_lst p), fun s H0 W0 W σ ρ H D Er E S eo hd k => ?_⟩
  refine q s H0 W0 W σ ρ H _ Er _ S eo hd fun vs ds W1 ρ1 H1 hd1 s1 e1 S1 w1 => ⟨big_le (by rw [w1.length]; exact hd1.1), fun a ha => ?_⟩
  obtain ⟨S2, no⟩ := S1.newOwn (xs := vs) ha
  exact k.nx _ _ _ _ hd1.2 ((Step.of s1 e1).trans (step_new ha)) (S2.setOwn List.mem_cons_self (S1.fresh0 ha) upd_same (DwA.new ha w1) no i0)
/-- an own list changes -/
theorem SOk.changeOwn {K : Fg} {H0 H : Hp} {W0 W : List Addr} {s : Sc} {σ : St} {ρ : Env'} (S : SOk K H0 W0 s W σ ρ H) {i : Nat} {ds : List PyData} (hi : ρ[i]? = some (some (.own ds))) :
    ∃ a xs, σ[i]? = some (some (.ref a)) ∧ a ∈ W ∧ H0 a = none ∧ H a = some (.lst xs) ∧ DwA K H W xs ds ∧ ∀ (ys : List V) (es : List PyData), DwA K H W ys es →
      SOk K H0 W0 s W σ (ρ.set i (some (.own es))) (L2.upd H a (.lst ys)) ∧ Ext W H (L2.upd H a (.lst ys)) := by
  obtain ⟨v, h1, a, xs, rfl, q1, q2, q3, q4⟩ := S.slot i _ hi
  refine ⟨a, xs, h1, q1, q2, q3, q4, fun ys es q => ?_⟩
  have ex : Ext W H (L2.upd H a (.lst ys)) := Ext.one q3 q1 (fun _ z => by cases z)
  have hil : i < ρ.length := (List.getElem?_eq_some_iff.mp hi).1
  refine ⟨⟨S.sub, S.tr0, S.new, fun b hb => ?_, fun b o h n => ?_, fun b hb => ⟨(S.src b hb).1, (S.src b hb).2.1, (S.src b hb).2.2.stay fun o h => ?_⟩, ⟨tabs_upd S.tab.1 q3, S.tab.2⟩, fun j d hj => ?_, fun j k v fs gs g1 g2 g3 g4 => ?_, by simp [S.len.1], fun b hb fs h0 => ?_⟩, ex⟩
  · by_cases e : b = a
    · rw [e]; exact ⟨_, upd_same⟩
    · rw [upd_ne e]; exact S.tr b hb
  · rw [upd_ne (ne_of_none h q2)]; exact S.frame b o h n
  · obtain ⟨_, ⟨o', h'⟩, _⟩ := S.src b hb
    rw [upd_ne (ne_of_none h' q2)]; exact h
  · by_cases z : i = j
    · subst z
      rw [List.getElem?_set_self hil] at hj
      cases hj
      exact ⟨_, h1, a, ys, rfl, q1, q2, upd_same, q.to ex fun _ z => z⟩
    · rw [List.getElem?_set_ne z] at hj
      obtain ⟨u, e1, e2⟩ := S.slot j d hj
      refine ⟨u, e1, ?_⟩
      cases d with
      | dat d => exact e2.to ex fun _ z => z
      | own fs =>
        obtain ⟨b, zs, rfl, r1, r2, r3, r4⟩ := e2
        refine ⟨b, zs, rfl, r1, r2, ?_, r4.to ex fun _ z => z⟩
        rw [upd_ne (fun e => z (S.uniq i j _ _ _ hi hj h1 (by rw [e1, e])))]
        exact r3
      | src => exact e2
      | scr ns =>
        obtain ⟨b, rfl, q⟩ := e2
        exact ⟨b, rfl, q.go fun o n h => ⟨ex.un n h, n⟩⟩
      | obj ob =>
        obtain ⟨b, u, rfl, r1, r2, r3, r4⟩ := e2
        exact ⟨b, u, rfl, r1, r2, by rw [upd_ne (fun e => r4.ne _ (by rw [e] at r3; exact Option.some.inj (r3.symm.trans q3)))]; exact r3, r4.to ex fun _ z => z⟩
  · have gg : ∀ {j : Nat} {fs : List PyData}, (ρ.set i (some (D.own es)))[j]? = some (some (.own fs)) → ∃ fs', ρ[j]? = some (some (.own fs')) := fun {j fs} g => by
      by_cases z : i = j
      · subst z; exact ⟨_, hi⟩
      · rw [List.getElem?_set_ne z] at g; exact ⟨_, g⟩
    obtain ⟨_, a1⟩ := gg g1
    obtain ⟨_, a2⟩ := gg g2
    exact S.uniq j k v _ _ a1 a2 g3 g4
  · by_cases z : i = 0
    · subst z
      exact S.len.2 b hb ds hi
    · rw [List.getElem?_set_ne z] at h0
      exact S.len.2 b hb fs h0
/-- name.append(e) -/
def sApp (i : Nat) (a : DE) : DS := fun D ρ Er => (∃ ds, ρ[i]? = some (some (.own ds))) ∧ a ρ (fun d ρ1 => match ρ1[i]? with
  | some (some (.own ds)) => ds.length < big ∧ D.nx (ρ1.set i (some (.own (ds ++ [d]))))
  | _ => False) Er
theorem tyV_own {K : Fg} {H : Hp} {a : Addr} {xs : List V} (h : H a = some (.lst xs)) : tyV K "list" (.ref a) H := .inl ⟨rfl, _, SqL.of h⟩
theorem ds_app {i : Nat} {y : Str} {py p1 p2 : Pos} (hv : PE X (.Name y py) (tVar i)) (ha : DEx X EX e da) (hs : swapsWith (.Call (.Attribute (.Name y py) "append" p1) [e] [] p2) none pos.line X.env = pure false := by rfl) (h1 : starEach [e] X.env = (false, eval e X.env) :: starEach [] X.env := by rfl)
    (mk : ∀ t, PE X e t → PE X (.Call (.Attribute (.Name y py) "append" p1) [e] [] p2) (tBM X.K "list" rAppend (tVar i) (tCons t tNil))) : DSx X EX (.Expr (.Call (.Attribute (.Name y py) "append" p1) [e] [] p2) pos) (sApp i da) := by
  obtain ⟨t, p, q⟩ := ha.ex
  refine ⟨_, ps_expr (mk t p) hs, fun s H0 W0 W σ ρ H D Er E S eo hd k => ?_⟩
  obtain ⟨⟨ds0, hi0⟩, hd⟩ := hd
  obtain ⟨a, xs, h1, _, _, h2, _⟩ := S.changeOwn hi0
  refine ⟨_, h1, tyV_own h2, q s H0 W0 W σ ρ H _ Er _ S eo hd fun v d W1 ρ1 H1 hd1 s1 e1 S1 w1 => ?_⟩
  split at hd1
  · rename_i ds hi
    obtain ⟨a', xs', g1, gw, g0, g2, g3, gg⟩ := S1.changeOwn hi
    rw [h1] at g1
    cases g1
    obtain ⟨S2, ex⟩ := gg (xs' ++ [v]) (ds ++ [d]) (g3.append (.cons w1 .nil))
    exact ⟨a, xs', v, rfl, rfl, g2, Nat.lt_of_lt_of_le (by rw [g3.length]; exact hd1.1) (big_le (Nat.le_refl _)), k.nx W1 σ _ _ hd1.2 (Step.of s1 (e1.trans (ex.sub s1))) S2⟩
  · exact hd1.elim
/-- name.pop(e), an index from nought on -/
def dPop (i : Nat) (a : DE) : DE := fun ρ R Er => (∃ ds, ρ[i]? = some (some (.own ds))) ∧ a ρ (fun d ρ1 => match d, ρ1[i]? with
  | .int j, some (some (.own ds)) => 0 ≤ j ∧ j < 1000000 ∧ ∃ z, ds[j.toNat]? = some z ∧ R z (ρ1.set i (some (.own (ds.eraseIdx j.toNat))))
  | _, _ => False) Er
theorem de_pop {i : Nat} {y : Str} {py p1 : Pos} (hv : PE X (.Name y py) (tVar i)) (ha : DEx X EX e da)
    (mk : ∀ t, PE X e t → PE X (.Call (.Attribute (.Name y py) "pop" p1) [e] [] pos) (tBM X.K "list" rPopAt (tVar i) (tCons t tNil))) : DEx X EX (.Call (.Attribute (.Name y py) "pop" p1) [e] [] pos) (dPop i da) := by
  obtain ⟨t, p, q⟩ := ha.ex
  refine ⟨_, mk t p, fun s H0 W0 W σ ρ H R Er Q S eo hd k => ?_⟩
  obtain ⟨⟨ds0, hi0⟩, hd⟩ := hd
  obtain ⟨a, xs, h1, _, _, h2, _⟩ := S.changeOwn hi0
  refine ⟨_, h1, tyV_own h2, q s H0 W0 W σ ρ H _ Er _ S eo hd fun v d W1 ρ1 H1 hd1 s1 e1 S1 w1 => ?_⟩
  split at hd1
  · rename_i j ds hi
    obtain ⟨b0, b1, z, hz, hR⟩ := hd1
    cases w1
    obtain ⟨a', xs', g1, gw, g0, g2, g3, gg⟩ := S1.changeOwn hi
    rw [h1] at g1
    cases g1
    obtain ⟨u, hu, du⟩ := g3.get hz
    obtain ⟨S2, ex⟩ := gg (xs'.eraseIdx j.toNat) (ds.eraseIdx j.toNat) (g3.erase _)
    have hlt : j.toNat < xs'.length := (List.getElem?_eq_some_iff.mp hu).1
    refine ⟨a, xs', j, j.toNat, u, rfl, rfl, g2, by omega, by omega, ?_, hu, k u z W1 _ _ hR s1 (e1.trans (ex.sub s1)) S2 (du.to ex fun _ z => z)⟩
    have hq : ixN xs'.length j = some j.toNat := by
      unfold ixN
      rw [if_pos b0, if_pos (by omega)]
    exact (ixN_seq hq).1
  · exact hd1.elim
/-- len(name), name an own list -/
def dLenO (i : Nat) : DE := fun ρ R _ => match ρ[i]? with
  | some (some (.own ds)) => R (.int ds.length) ρ
  | some (some (.scr ns)) => R (.int ns.length) ρ
  | _ => False
theorem de_lenO {i : Nat} {y : Str} {py p : Pos} (hv : PE X (.Name y py) (tVar i)) (mk : ∀ t, PE X (.Name y py) t → PE X (.Call (.Name "len" p) [.Name y py] [] pos) (tCB (fun xs H Q => ∃ p ys, xs = [.ref p] ∧ (SqL X.K H p ys ∨ SqT X.K H p ys) ∧ Q (.int ys.length) H) (tCons t tNil))) :
    DEx X EX (.Call (.Name "len" p) [.Name y py] [] pos) (dLenO i) := by
  refine ⟨_, mk _ hv, fun s H0 W0 W σ ρ H R Er Q S eo hd k => ?_⟩
  unfold dLenO at hd
  split at hd
  · rename_i ds hi
    obtain ⟨a, xs, h1, _, _, h2, h3, _⟩ := S.changeOwn hi
    exact ⟨_, h1, a, xs, rfl, .inl (SqL.of h2), by rw [h3.length]; exact k _ _ W ρ H hd (fun _ z => z) (Ext.refl _ _) S (.int _)⟩
  · rename_i ns hi
    obtain ⟨v, h1, a, rfl, q⟩ := S.slot i _ hi
    exact ⟨_, h1, a, ns.map V.int, rfl, .inl q.sq, by rw [List.length_map]; exact k _ _ W ρ H hd (fun _ z => z) (Ext.refl _ _) S (.int _)⟩
  · exact hd.elim
/-- name != e, name an own list -/
def dTNeO (i : Nat) (b : DE) : DT := fun ρ R Er => (∃ ds, ρ[i]? = some (some (.own ds))) ∧ b ρ (fun y ρ1 => match ρ1[i]? with
  | some (some (.own ds)) => SeqAt.shaped (.list ds) = true ∧ SeqAt.shaped y = true ∧ R (!PyData.eqv (.list ds) y) ρ1
  | _ => False) Er
theorem dt_neO {i : Nat} {y : Str} {py : Pos} {b : Expr} {db : DE} (hu : X.A.units + 64 < cLine) (hv : PE X (.Name y py) (tVar i)) (hb : DEx X EX b db) : DTx X EX (.Compare (.Name y py) [.NotEq] [b] pos) (dTNeO i db) := by
  obtain ⟨t, p, q⟩ := hb.ex
  refine ⟨_, pt_cmpR (op_neW hu) hv p (nomark _), fun s H0 W0 W σ ρ H R Er Q S eo hd k => ?_⟩
  obtain ⟨⟨ds0, hi0⟩, hd⟩ := hd
  obtain ⟨a, xs, h1, _⟩ := S.changeOwn hi0
  refine ⟨_, h1, q s H0 W0 W σ ρ H _ Er _ S eo hd fun v d W1 ρ1 H1 hd1 s1 e1 S1 w1 => ?_⟩
  split at hd1
  · rename_i ds hi
    obtain ⟨a', xs', g1, gw, g0, g2, g3, gg⟩ := S1.changeOwn hi
    rw [h1] at g1
    cases g1
    exact ⟨[], _, _, .lst (by simp) g2 (g3.to (Ext.refl _ _) fun _ z => absurd z (by simp)), w1.to (Ext.refl _ _) (fun _ z => absurd z (by simp)), hd1.1, hd1.2.1, _, rfl, k _ W1 ρ1 H1 hd1.2.2 s1 e1 S1⟩
  · exact hd1.elim
end
/-! ### a def by its body -/
open PyProof.Rows (envOfC)
def startD (n : Nat) (ds : List PyData) : Env' := ds.map (fun d => some (.dat d)) ++ List.replicate (n - ds.length) none
def startS (n : Nat) (ds : List PyData) : Env' := some .src :: (ds.map (fun d => some (.dat d)) ++ List.replicate (n - (ds.length + 1)) none)
theorem start_ok {K : Fg} {H : Hp} {W : List Addr} {vs : List V} {ds : List PyData} {n : Nat} {s : Sc} {W0 : List Addr} {H0 : Hp} (q : DwA K H W vs ds) (i : Nat) (d : D) (h : (startD n ds)[i]? = some (some d)) : ∃ v, (vs.map some ++ List.replicate (n - vs.length) none)[i]? = some (some v) ∧ SlotV K H0 s W H v d := by
  unfold startD at h
  have hl : i < ds.length := by
    by_cases hl : i < ds.length
    · exact hl
    · rw [List.getElem?_append_right (by simpa using hl), List.getElem?_replicate] at h
      split at h <;> cases h
  rw [List.getElem?_append_left (by simpa using hl), List.getElem?_map, List.getElem?_eq_getElem hl] at h
  cases h
  obtain ⟨v, h1, h2⟩ := q.get (List.getElem?_eq_getElem hl)
  exact ⟨v, by rw [List.getElem?_append_left (by simpa using (List.getElem?_eq_some_iff.mp h1).1), List.getElem?_map, h1]; rfl, h2⟩
section
variable {P : Program} {w : World} {K : Fg} {mg : Str → Option Value} {base : Heap}
/-- THE RULE: a def of data, by its body -/
theorem fun_d {CX : CXT} {x qual : Str} {st : Stmt} {f : Addr} {fd : FuncData} {N ps : List Str} {k n : Nat} {fn : PF} (F : Fun K x qual st f fd) (S : FnScope N ps (defScope st)) (hn : ps.length = n)
    (h : ∀ (cdv : Value) (A : Around) (outer : List Env) (s : Shared) (H : Hp) (E : XK), Room k (A.deeper (envOfC qual (defScope st) s.heap.objs.size f cdv)) → A.guards = some [] →
      ∃ dt, DBx (cxOf CX P w K mg base N qual (defScope st) f cdv A outer s H E) E (defBody st) dt ∧ ∀ ds R Er, ds.length = n → fn ds R Er → dt { nx := fun _ => R .none, rt := fun d _ => R d } (startD N.length ds) Er) :
    FnG P w K mg base CX (k + 1) f fd ps (spD K n fn) := by
  obtain ⟨oc, od, kV, doc, pm, an, cdv, ct, osl, rfl, lk, hcd⟩ := F.ex
  refine fn_g lk hcd S (fun vs H Q E h => by rw [h.1, hn]) fun A outer s H vs Q E hr hgd hsp => ?_
  obtain ⟨dt, hb, hq⟩ := h cdv A outer s H E hr hgd
  obtain ⟨t, p, q⟩ := hb.ex
  obtain ⟨hl, W, ds, R, Er, hW, hd, hf, k1, k2⟩ := hsp
  refine ⟨t, p, ?_⟩
  have S0 : SOk K H W sc0 W (L2.start N vs) (startD N.length ds) H := by
    refine ⟨fun _ z => z, hW, fun _ z => .inl z, hW, fun _ _ h _ => h, (fun _ z => nomatch z), ⟨tabs0, fun _ h => by cases h⟩, fun i d h => start_ok (s := sc0) (W0 := W) (H0 := H) hd i d h, fun i j v es fs h1 => ?_, ?_⟩
    · exfalso
      unfold startD at h1
      by_cases hl : i < ds.length
      · rw [List.getElem?_append_left (by simpa using hl), List.getElem?_map, List.getElem?_eq_getElem hl] at h1; cases h1
      · rw [List.getElem?_append_right (by simpa using hl), List.getElem?_replicate] at h1
        split at h1 <;> cases h1
    · refine ⟨by simp [L2.start, startD, hd.length], fun _ z => nomatch z⟩
  refine q sc0 H W W (L2.start N vs) (startD N.length ds) H _ Er _ S0 k2 (hq ds R Er (by rw [← hd.length, hl]) hf) ⟨fun W' σ' ρ' H' h st S' => ?_, fun W' σ' ρ' H' v d h S' w' => ?_, fun _ _ _ _ h => h.elim, fun _ _ _ _ h => h.elim⟩
  · exact k1 .non .none H' h (fun b o hb => S'.frame b o hb Sc.no0) .non
  · exact k1 v d H' h (fun b o hb => S'.frame b o hb Sc.no0) (w'.to (Ext.refl _ _) S'.sub)
/-- .. of a source and data -/
theorem fun_s {CX : CXT} {x qual : Str} {st : Stmt} {f : Addr} {fd : FuncData} {N ps : List Str} {k n : Nat} {fn : PF} (F : Fun K x qual st f fd) (S : FnScope N ps (defScope st)) (hn : ps.length = n) (hN : 0 < N.length)
    (h : ∀ (cdv : Value) (A : Around) (outer : List Env) (s : Shared) (H : Hp) (E : XK), Room k (A.deeper (envOfC qual (defScope st) s.heap.objs.size f cdv)) → A.guards = some [] →
      ∃ dt, DBx (cxOf CX P w K mg base N qual (defScope st) f cdv A outer s H E) E (defBody st) dt ∧ ∀ ds R Er, ds.length + 1 = n → fn ds R Er → dt { nx := fun _ => R .none, rt := fun d _ => R d } (startS N.length ds) Er) :
    FnG P w K mg base CX (k + 1) f fd ps (spS K n fn) := by
  obtain ⟨oc, od, kV, doc, pm, an, cdv, ct, osl, rfl, lk, hcd⟩ := F.ex
  refine fn_g lk hcd S (fun vs H Q E h => by rw [h.1, hn]) fun A outer s H vs Q E hr hgd hsp => ?_
  obtain ⟨dt, hb, hq⟩ := h cdv A outer s H E hr hgd
  obtain ⟨t, p, q⟩ := hb.ex
  obtain ⟨hl, a, vs', W, ds, R, Er, rfl, hW, haW, hsrc, hd, hf, k1, k2⟩ := hsp
  refine ⟨t, p, ?_⟩
  have e0 : L2.start N (V.ref a :: vs') = some (V.ref a) :: (vs'.map some ++ List.replicate (N.length - 1 - vs'.length) none) := by
    unfold L2.start
    simp only [List.map_cons, List.cons_append, List.length_cons]
    congr 3
    omega
  have e1 : startS N.length ds = some .src :: startD (N.length - 1) ds := by
    unfold startS startD
    congr 3
    omega
  have S0 : SOk K H W (scS a) W (L2.start N (V.ref a :: vs')) (startS N.length ds) H := by
    rw [e0, e1]
    refine ⟨fun _ z => z, hW, fun _ z => .inl z, hW, fun _ _ h _ => h, fun b z => by cases z; exact ⟨haW, hW a haW, hsrc⟩, ⟨tabs0, fun _ h => by cases h⟩, fun i d h => ?_, fun i j v es fs h1 => ?_, ?_⟩
    · cases i with
      | zero => simp at h; subst h; exact ⟨_, rfl, a, rfl, rfl⟩
      | succ i => exact start_ok (s := scS a) (W0 := W) (H0 := H) hd i d (by simpa using h)
    · exfalso
      cases i with
      | zero => simp at h1
      | succ i =>
        rw [List.getElem?_cons_succ] at h1
        unfold startD at h1
        by_cases hl : i < ds.length
        · rw [List.getElem?_append_left (by simpa using hl), List.getElem?_map, List.getElem?_eq_getElem hl] at h1; cases h1
        · rw [List.getElem?_append_right (by simpa using hl), List.getElem?_replicate] at h1
          split at h1 <;> cases h1
    · refine ⟨by simp [startD, hd.length], fun _ z => nomatch z⟩
  have hl' : ds.length + 1 = n := by rw [← hd.length]; simpa using hl
  refine q (scS a) H W W _ _ H _ Er _ S0 k2 (hq ds R Er hl' hf) ⟨fun W' σ' ρ' H' h st S' => ?_, fun W' σ' ρ' H' v d h S' w' => ?_, fun _ _ _ _ h => h.elim, fun _ _ _ _ h => h.elim⟩
  · exact k1 .non .none H' h (fun b o hb h' => S'.frame b o h' (Sc.noS hb)) (S'.src a rfl).2.2 .non
  · exact k1 v d H' h (fun b o hb h' => S'.frame b o h' (Sc.noS hb)) (S'.src a rfl).2.2 (w'.to (Ext.refl _ _) S'.sub)
end
end DD

/-! What a judgement says, as one reading for all places where it stands; comprehensions by parts; defs that let no error out. -/
namespace DD
open PySem L2
open PyProof.Rows (envOfC)
def tD (K : Fg) (EX : XK) (dt : DE) : TE := fun σ H Q => ∃ (s : Sc) (H0 : Hp) (W0 W : List Addr) (ρ : Env') (R : PyData → Env' → Prop) (Er : Er'), SOk K H0 W0 s W σ ρ H ∧ ErOk K H0 W0 s EX Er ∧ dt ρ R Er ∧ Bk K H0 W0 s W σ H R Q
def tDT (K : Fg) (EX : XK) (dt : DT) : TT := fun σ H Q => ∃ (s : Sc) (H0 : Hp) (W0 W : List Addr) (ρ : Env') (R : Bool → Env' → Prop) (Er : Er'), SOk K H0 W0 s W σ ρ H ∧ ErOk K H0 W0 s EX Er ∧ dt ρ R Er ∧ BkT K H0 W0 s W σ H R Q
def tDG (K : Fg) (is : List Nat) (g : DG) : TG := fun v σ H Q => ∃ (s : Sc) (H0 : Hp) (W0 W : List Addr) (ρ : Env') (d : PyData) (R : Env' → Prop), SOk K H0 W0 s W σ ρ H ∧ Dw K H W v d ∧ g d ρ R ∧
  (∀ (σ' : St) (ρ' : Env'), R ρ' → SOk K H0 W0 s W σ' ρ' H → (∀ vs : List Nat, (∀ i ∈ is, i ∈ vs) → wipe σ' vs = wipe σ vs) → Q σ' H)
theorem DEx.pe {X : Cx} {EX : XK} {e : Expr} {dt : DE} (h : DEx X EX e dt) : PE X e (tD X.K EX dt) := by
  obtain ⟨t, p, q⟩ := h.ex
  constructor
  rintro pins s σ H Q I ⟨s', H0, W0, W, ρ, R, Er, S, eo, hd, k⟩
  exact p.run pins s σ H Q I (q s' H0 W0 W σ ρ H R Er Q S eo hd k)
theorem DTsx.pts {X : Cx} {EX : XK} {ifs : List Expr} {dt : DT} (h : DTsx X EX ifs dt) : PTs X ifs (tDT X.K EX dt) := by
  obtain ⟨t, p, q⟩ := h.ex
  constructor
  rintro pins s σ H Q I ⟨s', H0, W0, W, ρ, R, Er, S, eo, hd, k⟩
  exact p.run pins s σ H Q I (q s' H0 W0 W σ ρ H R Er Q S eo hd k)
theorem DGx.pg {X : Cx} {tg : Expr} {is : List Nat} {g : DG} (h : DGx X tg is g) : PG X tg (tDG X.K is g) := by
  obtain ⟨t, p, q⟩ := h.ex
  constructor
  rintro pins s σ H v u Q I r ⟨s', H0, W0, W, ρ, d, R, S, w, hd, k⟩
  exact p.run pins s σ H v u Q I r (q s' H0 W0 W σ ρ H v d R Q S w hd k)
section
variable {X : Cx} {EX : XK} {tg iter elt : Expr} {pos : Pos}
theorem de_comp {ifs : List Expr} {scope : Scope} (own : List (Str × Nat)) {di : DI} {is : List Nat} {g : DG} {tt : DT} {te : DE} (hc : X.calm = true) (hN : X.N.Nodup) (hi : DIx X EX tg iter di) (ok : BlkOk X.N X.env.scope scope own)
    (hg : ∀ (s : Shared) (H : Hp) (C : Addr) (cl : List (Str × Addr)) (fp : List Addr), DGx (BlkX X scope s H C cl fp) tg is g) (ht : ∀ (s : Shared) (H : Hp) (C : Addr) (cl : List (Str × Addr)) (fp : List Addr), DTsx (BlkX X scope s H C cl fp) E0 ifs tt)
    (he : ∀ (s : Shared) (H : Hp) (C : Addr) (cl : List (Str × Addr)) (fp : List Addr), DEx (BlkX X scope s H C cl fp) E0 elt te)
    (his : ∀ i ∈ is, i ∈ own.map (·.2) := by decide) (hs : ∀ x, foldedSetIterable iter X.env x = pure x := by intro _; rfl) : DEx X EX (.ListComp elt [⟨tg, iter, ifs, 0⟩] scope pos) (dLc di g tt te (own.map (·.2))) :=
  de_lc (g := g) (tt := tt) (te := te) (g1 := tDG X.K is g) (tt1 := tDT X.K E0 tt) (te1 := tD X.K E0 te) hc hN hi ok (fun s H C cl fp => (hg s H C cl fp).pg) (fun s H C cl fp => (ht s H C cl fp).pts) (fun s H C cl fp => (he s H C cl fp).pe)
    (fun s H0 W0 W σ ρ H v d R Q S w hd k => ⟨s, H0, W0, W, ρ, d, R, S, w, hd, k⟩) (fun s H0 W0 W σ ρ H R Er Q S eo hd k => ⟨s, H0, W0, W, ρ, R, Er, S, eo, hd, k⟩) (fun s H0 W0 W σ ρ H R Er Q S eo hd k => ⟨s, H0, W0, W, ρ, R, Er, S, eo, hd, k⟩) his hs
/-- name = [..] on one line, data -/
theorem ds_setLc {i : Nat} {y : Str} {py spos : Pos} {ifs : List Expr} {scope : Scope} (own : List (Str × Nat)) {di : DI} {is : List Nat} {g : DG} {tt : DT} {te : DE} (hc : X.calm = true) (hN : X.N.Nodup) (hy : X.N[i]? = some y) (hyl : X.env.scope.names.lookup y = some .local)
    (hsw : swapsWith (.ListComp elt [⟨tg, iter, ifs, 0⟩] scope pos) (some (.Name y py)) spos.line X.env = pure true) (hi : DIx X EX tg iter di) (ok : BlkOk X.N X.env.scope scope own)
    (hg : ∀ (s : Shared) (H : Hp) (C : Addr) (cl : List (Str × Addr)) (fp : List Addr), DGx (BlkX X scope s H C cl fp) tg is g) (ht : ∀ (s : Shared) (H : Hp) (C : Addr) (cl : List (Str × Addr)) (fp : List Addr), DTsx (BlkX X scope s H C cl fp) E0 ifs tt)
    (he : ∀ (s : Shared) (H : Hp) (C : Addr) (cl : List (Str × Addr)) (fp : List Addr), DEx (BlkX X scope s H C cl fp) E0 elt te)
    (his : ∀ i ∈ is, i ∈ own.map (·.2) := by decide) (hs : ∀ x, foldedSetIterable iter X.env x = pure x := by intro _; rfl) :
    DSx X EX (.Assign [.Name y py] (.ListComp elt [⟨tg, iter, ifs, 0⟩] scope pos) spos) (sSet i (dLc di g tt te (own.map (·.2)))) := by
  obtain ⟨wi, pi, qi⟩ := hi.ex
  refine ⟨_, ps_setLc (g := tDG X.K is g) (tt := tDT X.K E0 tt) (te := tD X.K E0 te) hc hN hy hyl hsw pi ok (fun s H C cl fp => (hg s H C cl fp).pg) (fun s H C cl fp => (ht s H C cl fp).pts) (fun s H C cl fp => (he s H C cl fp).pe) hs, fun s H0 W0 W σ ρ H D Er E S eo hd k => ?_⟩
  refine lc_sound (X := X) (EX := EX) (g := g) (tt := tt) (te := te) qi (fun s H0 W0 W σ ρ H v d R Q S w hd k => ⟨s, H0, W0, W, ρ, d, R, S, w, hd, k⟩) (fun s H0 W0 W σ ρ H R Er Q S eo hd k => ⟨s, H0, W0, W, ρ, R, Er, S, eo, hd, k⟩)
    (fun s H0 W0 W σ ρ H R Er Q S eo hd k => ⟨s, H0, W0, W, ρ, R, Er, S, eo, hd, k⟩) his s H0 W0 W σ ρ H _ Er _ S eo hd fun p xs ds W' ρ' H' hR sb ex S' st pw hp0 hp q no => ?_
  obtain ⟨W2, s2, S2, w2⟩ := lc_done sb S' pw hp0 hp q no
  exact k.nx W2 _ _ H' hR (Step.of s2 ex) (S2.set w2)
/-- a, b = list(e), [] : two lists of the def's own -/
def sParLN (i j : Nat) (a : DE) : DS := fun D ρ Er => a ρ (fun d ρ1 => match fListOf [d] with | some (.list ds) => D.nx ((ρ1.set i (some (.own ds))).set j (some (.own []))) | _ => False) Er
theorem ds_parLN {i j : Nat} {st : Stmt} {e : Expr} {da : DE} {p p2 p3 : Pos} (mk : ∀ ta, PA X [.Call (.Name "list" p) [e] [] p2, .List [] p3] ta → PS X st (tPar i j ta)) (hg : Gl X "list") (hm : X.mg "list" = none) (ha : DEx X EX e da) (i0 : 0 < i ∧ 0 < j := by decide)
    (h1 : starEach [e] X.env = (false, eval e X.env) :: starEach [] X.env := by rfl)
    (h2 : starEach [.Call (.Name "list" p) [e] [] p2, .List [] p3] X.env = (false, eval (.Call (.Name "list" p) [e] [] p2) X.env) :: starEach [.List [] p3] X.env := by rfl)
    (h3 : starEach [.List [] p3] X.env = (false, eval (.List [] p3) X.env) :: starEach [] X.env := by rfl) (hpl : (backTo p2 (starEach [] X.env)).any (·.1) = false := by rfl) : DSx X EX st (sParLN i j da) := by
  obtain ⟨t, pp, q⟩ := ha.ex
  refine ⟨_, mk _ (pa_cons (pe_callTy call_list_of hg hm PyProof.Rows.boot_list (pa_cons pp pa_nil h1) (he := h1) (hpl := hpl)) (pa_cons (pe_lst pa_nil) pa_nil h3) h2), fun s H0 W0 W σ ρ H D Er E S eo hd k => ?_⟩
  refine q s H0 W0 W σ ρ H _ Er _ S eo hd fun v d W1 ρ1 H1 hd1 s1 e1 S1 w1 => ?_
  have go : ∀ (a : Addr) (xs : List V) (ds : List PyData), DwA X.K H1 W1 xs ds → D.nx ((ρ1.set i (some (.own ds))).set j (some (.own []))) → ∀ l, H1 l = none → (([] : List V).length ≤ sizeLine ∧ ∀ p, (upd H1 l (.lst xs)) p = none → ∃ v w, [V.ref l, V.ref p] = [v, w] ∧ E.nx ((σ.set i (some v)).set j (some w)) (upd (upd H1 l (.lst xs)) p (.lst []))) := by
    intro a xs ds qa hnx l hl
    refine ⟨Nat.zero_le _, fun p hp => ⟨_, _, rfl, ?_⟩⟩
    obtain ⟨S2, no2⟩ := S1.newOwn (xs := xs) hl
    have S3 := S2.setOwn (i := i) List.mem_cons_self (S1.fresh0 hl) upd_same (DwA.new hl qa) no2 i0.1
    obtain ⟨S4, no4⟩ := S3.newOwn (xs := []) hp
    have S5 := S4.setOwn (i := j) (ds := []) List.mem_cons_self (S3.fresh0 hp) upd_same .nil no4 i0.2
    exact k.nx _ _ _ _ hnx ((Step.of s1 e1).trans ((step_new hl).trans (step_new hp))) S5
  cases d with
  | list ds =>
    obtain ⟨a, rfl⟩ := w1.lstV
    obtain ⟨xs, hx, qa⟩ := w1.sqL
    exact ⟨a, xs, rfl, .inl hx, fun l hl => go a xs ds qa hd1 l hl⟩
  | tuple ds =>
    obtain ⟨a, rfl⟩ := w1.tupV
    obtain ⟨xs, hx, qa⟩ := w1.sqT
    exact ⟨a, xs, rfl, .inr hx, fun l hl => go a xs ds qa hd1 l hl⟩
  | _ => exact hd1.elim
end
theorem passE {X : Cx} {E : XK} : Passes CX0 X E := fun _ _ _ _ _ _ _ h => h.elim
theorem DBx.nox {X : Cx} {EX : XK} {st : List Stmt} {dt : DS} (h : DBx X.nox EX st dt) : DBx X EX st dt := by
  obtain ⟨t, p, q⟩ := h.ex
  exact ⟨t, p.nox, q⟩
section
variable {P : Program} {w : World} {K : Fg} {mg : Str → Option Value} {base : Heap}
abbrev CXn (P : Program) (w : World) (K : Fg) (mg : Str → Option Value) (base : Heap) (N : List Str) (qual : Str) (st : Stmt) (f : Addr) (cdv : Value) (A : Around) (outer : List Env) (s : Shared) (H : Hp) (E : XK) : Cx := (cxOf CX0 P w K mg base N qual (defScope st) f cdv A outer s H E).nox
theorem fun_d0 {x qual : Str} {st : Stmt} {f : Addr} {fd : FuncData} {N ps : List Str} {k n : Nat} {fn : PF} (F : Fun K x qual st f fd) (S : FnScope N ps (defScope st)) (hn : ps.length = n)
    (dt : DS) (h : ∀ (cdv : Value) (A : Around) (outer : List Env) (s : Shared) (H : Hp) (E : XK), Room k (A.deeper (envOfC qual (defScope st) s.heap.objs.size f cdv)) → A.guards = some [] → DBx (CXn P w K mg base N qual st f cdv A outer s H E) E (defBody st) dt)
    (hd : ∀ ds R Er, ds.length = n → fn ds R Er → dt { nx := fun _ => R .none, rt := fun d _ => R d } (startD N.length ds) Er) :
    FnG P w K mg base CX0 (k + 1) f fd ps (spD K n fn) :=
  fun_d F S hn fun cdv A outer s H E hr hg => ⟨dt, (h cdv A outer s H E hr hg).nox, hd⟩
theorem fun_s0 {x qual : Str} {st : Stmt} {f : Addr} {fd : FuncData} {N ps : List Str} {k n : Nat} {fn : PF} (F : Fun K x qual st f fd) (S : FnScope N ps (defScope st)) (hn : ps.length = n) (hN : 0 < N.length)
    (dt : DS) (h : ∀ (cdv : Value) (A : Around) (outer : List Env) (s : Shared) (H : Hp) (E : XK), Room k (A.deeper (envOfC qual (defScope st) s.heap.objs.size f cdv)) → A.guards = some [] → DBx (CXn P w K mg base N qual st f cdv A outer s H E) E (defBody st) dt)
    (hd : ∀ ds R Er, ds.length + 1 = n → fn ds R Er → dt { nx := fun _ => R .none, rt := fun d _ => R d } (startS N.length ds) Er) :
    FnG P w K mg base CX0 (k + 1) f fd ps (spS K n fn) :=
  fun_s F S hn hN fun cdv A outer s H E hr hg => ⟨dt, (h cdv A outer s H E hr hg).nox, hd⟩
end
end DD

/-! Short words for what is generated: calls of what is built in, of own defs. -/
namespace DD
open PySem L2
open PyProof.Rows (envOfC)
section
variable {X : Cx} {EX : XK} {a b e : Expr} {es : List Expr} {da : DA} {dx : DE} {p pos : Pos}
theorem de_len (hm : X.mg "len" = none) (ha : DAx X EX (e :: es) da) (hg : Gl X "len" := by rfl) (he : starEach (e :: es) X.env = (false, eval e X.env) :: starEach es X.env := by rfl) (hpl : (backTo pos (starEach es X.env)).any (·.1) = false := by rfl) :
    DEx X EX (.Call (.Name "len" p) (e :: es) [] pos) (dCall fLen da) := call_ok ra_len ha fun t q => pe_callB call_len_seq hg hm boot_len q (he := he) (hpl := hpl)
theorem de_lenO' {i : Nat} {y : Str} {py : Pos} (hm : X.mg "len" = none) (hv : PE X (.Name y py) (tVar i)) (hg : Gl X "len" := by rfl) (he : starEach [.Name y py] X.env = (false, eval (.Name y py) X.env) :: starEach [] X.env := by rfl) (hpl : (backTo pos (starEach [] X.env)).any (·.1) = false := by rfl) :
    DEx X EX (.Call (.Name "len" p) [.Name y py] [] pos) (dLenO i) := de_lenO hv fun t q => pe_callB call_len_seq hg hm boot_len (pa_cons q pa_nil he) (he := he) (hpl := hpl)
theorem de_max2 (hc : X.calm = true) (hm : X.mg "max" = none) (ha : DAx X EX (e :: es) da) (hg : Gl X "max" := by rfl) (he : starEach (e :: es) X.env = (false, eval e X.env) :: starEach es X.env := by rfl) (hpl : (backTo pos (starEach es X.env)).any (·.1) = false := by rfl) :
    DEx X EX (.Call (.Name "max" p) (e :: es) [] pos) (dCall fMax2 da) := call_ok ra_max2 ha fun t q => pe_callB (call_max2 hc) hg hm PyProof.Rows.boot_max q (he := he) (hpl := hpl)
theorem boot_min' : bootBuiltins "min" = some (.builtin "min") := by decide +kernel
theorem boot_all' : bootBuiltins "all" = some (.builtin "all") := by decide +kernel
theorem boot_any' : bootBuiltins "any" = some (.builtin "any") := by decide +kernel
theorem de_min2 (hc : X.calm = true) (hm : X.mg "min" = none) (ha : DAx X EX (e :: es) da) (hg : Gl X "min" := by rfl) (he : starEach (e :: es) X.env = (false, eval e X.env) :: starEach es X.env := by rfl) (hpl : (backTo pos (starEach es X.env)).any (·.1) = false := by rfl) :
    DEx X EX (.Call (.Name "min" p) (e :: es) [] pos) (dCall fMin2 da) := call_ok ra_min2 ha fun t q => pe_callB (call_min2 hc) hg hm boot_min' q (he := he) (hpl := hpl)
theorem de_all (hc : X.calm = true) (hm : X.mg "all" = none) (ha : DAx X EX (e :: es) da) (hg : Gl X "all" := by rfl) (he : starEach (e :: es) X.env = (false, eval e X.env) :: starEach es X.env := by rfl) (hpl : (backTo pos (starEach es X.env)).any (·.1) = false := by rfl) :
    DEx X EX (.Call (.Name "all" p) (e :: es) [] pos) (dCall fAll da) := call_ok ra_all ha fun t q => pe_callB (cr_all hc) hg hm boot_all' q (he := he) (hpl := hpl)
theorem de_any (hc : X.calm = true) (hm : X.mg "any" = none) (ha : DAx X EX (e :: es) da) (hg : Gl X "any" := by rfl) (he : starEach (e :: es) X.env = (false, eval e X.env) :: starEach es X.env := by rfl) (hpl : (backTo pos (starEach es X.env)).any (·.1) = false := by rfl) :
    DEx X EX (.Call (.Name "any" p) (e :: es) [] pos) (dCall fAny da) := call_ok ra_any ha fun t q => pe_callB (cr_any hc) hg hm boot_any' q (he := he) (hpl := hpl)
theorem de_intc (hm : X.mg "int" = none) (ha : DAx X EX (e :: es) da) (hg : Gl X "int" := by rfl) (he : starEach (e :: es) X.env = (false, eval e X.env) :: starEach es X.env := by rfl) (hpl : (backTo pos (starEach es X.env)).any (·.1) = false := by rfl) :
    DEx X EX (.Call (.Name "int" p) (e :: es) [] pos) (dCall fInt da) := call_ok ra_int ha fun t q => pe_callTy call_int1 hg hm PyProof.Rows.boot_int q (he := he) (hpl := hpl)
theorem de_list (hm : X.mg "list" = none) (ha : DAx X EX (e :: es) da) (hg : Gl X "list" := by rfl) (he : starEach (e :: es) X.env = (false, eval e X.env) :: starEach es X.env := by rfl) (hpl : (backTo pos (starEach es X.env)).any (·.1) = false := by rfl) :
    DEx X EX (.Call (.Name "list" p) (e :: es) [] pos) (dCall fListOf da) := call_ok ra_listOf ha fun t q => pe_callTy call_list_of hg hm PyProof.Rows.boot_list q (he := he) (hpl := hpl)
theorem de_tuple (hm : X.mg "tuple" = none) (ha : DAx X EX (e :: es) da) (hg : Gl X "tuple" := by rfl) (he : starEach (e :: es) X.env = (false, eval e X.env) :: starEach es X.env := by rfl) (hpl : (backTo pos (starEach es X.env)).any (·.1) = false := by rfl) :
    DEx X EX (.Call (.Name "tuple" p) (e :: es) [] pos) (dCall fTupOf da) := call_ok ra_tupOf ha fun t q => pe_callTy call_tuple_of hg hm PyProof.Rows.boot_tuple q (he := he) (hpl := hpl)
theorem de_repr (hgd : X.A.guards = some []) (hu : X.A.units + 64 < cLine) (hm : X.mg "repr" = none) (ha : DAx X EX (e :: es) da) (hg : Gl X "repr" := by rfl) (he : starEach (e :: es) X.env = (false, eval e X.env) :: starEach es X.env := by rfl) (hpl : (backTo pos (starEach es X.env)).any (·.1) = false := by rfl) :
    DEx X EX (.Call (.Name "repr" p) (e :: es) [] pos) (dCall fRepr da) := call_ok ra_repr ha fun t q => pe_callB (call_reprD hgd hu) hg hm PyProof.Rows.boot_repr q (he := he) (hpl := hpl)
def isi_int : "int" = "int" ∨ "int" = "bool" ∨ "int" = "tuple" ∨ "int" = "list" ∨ "int" = "str" ∨ "int" = "dict" := .inl rfl
def isi_bool : "bool" = "int" ∨ "bool" = "bool" ∨ "bool" = "tuple" ∨ "bool" = "list" ∨ "bool" = "str" ∨ "bool" = "dict" := .inr (.inl rfl)
def isi_tuple : "tuple" = "int" ∨ "tuple" = "bool" ∨ "tuple" = "tuple" ∨ "tuple" = "list" ∨ "tuple" = "str" ∨ "tuple" = "dict" := .inr (.inr (.inl rfl))
def isi_list : "list" = "int" ∨ "list" = "bool" ∨ "list" = "tuple" ∨ "list" = "list" ∨ "list" = "str" ∨ "list" = "dict" := .inr (.inr (.inr (.inl rfl)))
def isi_str : "str" = "int" ∨ "str" = "bool" ∨ "str" = "tuple" ∨ "str" = "list" ∨ "str" = "str" ∨ "str" = "dict" := .inr (.inr (.inr (.inr (.inl rfl))))
def isi_dict : "dict" = "int" ∨ "dict" = "bool" ∨ "dict" = "tuple" ∨ "dict" = "list" ∨ "dict" = "str" ∨ "dict" = "dict" := .inr (.inr (.inr (.inr (.inr rfl))))
theorem boot_str' : bootBuiltins "str" = some (.type "str") := by decide +kernel
theorem boot_dict' : bootBuiltins "dict" = some (.type "dict") := by decide +kernel
/-- -e -/
def dNeg (a : DE) : DE := fun ρ R Er => a ρ (fun d ρ1 => match d with | .int i => R (.int (-i)) ρ1 | _ => False) Er
theorem de_neg (ha : DEx X EX a dx) : DEx X EX (.UnaryOp .USub a pos) (dNeg dx) := by
  obtain ⟨t, p, q⟩ := ha.ex
  refine ⟨_, pe_un un_neg p, fun s H0 W0 W σ ρ H R Er Q S eo hd k => ?_⟩
  refine q s H0 W0 W σ ρ H _ Er _ S eo hd fun v d W1 ρ1 H1 hd1 s1 e1 S1 w1 => ?_
  split at hd1
  · cases w1
    exact ⟨_, rfl, k _ _ W1 ρ1 H1 hd1 s1 e1 S1 (.int _)⟩
  · exact hd1.elim
/-- a def that may be called: where it stands, what it promises -/
structure Cal (P : Program) (w : World) (K : Fg) (mg : Str → Option Value) (base : Heap) (k : Nat) (x : Str) (sp : Sp) : Prop where
  ex : ∃ (a : Addr) (fd : FuncData) (ps : List Str), FnG P w K mg base CX0 k a fd ps sp ∧ mg x = some (.ref a) ∧ PySem.W.keepIn K (.ref a) = true ∧ Binds K fd ps []
/-- a def of the text, behind the top -/
structure DefAt (K : Fg) (mg : Str → Option Value) (x : Str) (st : Stmt) (ps : List Str) : Prop where
  ex : ∃ (a : Addr) (fd : FuncData), Fun K x x st a fd ∧ mg x = some (.ref a) ∧ Binds K fd ps []
theorem DefAt.cal {P : Program} {w : World} {K : Fg} {mg : Str → Option Value} {base : Heap} {k : Nat} {x : Str} {st : Stmt} {ps : List Str} {sp : Sp} (D : DefAt K mg x st ps) (h : ∀ a fd, Fun K x x st a fd → FnG P w K mg base CX0 k a fd ps sp) : Cal P w K mg base k x sp := by
  obtain ⟨a, fd, F, g, b⟩ := D.ex
  exact ⟨a, fd, ps, h a fd F, g, F.kp, b⟩
variable {k n j : Nat} {fn : PF} {x : Str}
theorem de_call (c : Cal X.prog X.w X.K X.mg X.base k x (spD X.K n fn)) (hr : Room j X.A) (hk : k ≤ j) (hgd : X.A.guards = some []) (ha : DAx X EX (e :: es) da) (hn : (e :: es).length = n := by rfl) (hg : Gl X x := by rfl) (hdb : (x == ("__debug__" : Str)) = false := by decide)
    (he : starEach (e :: es) X.env = (false, eval e X.env) :: starEach es X.env := by rfl) (hpl : (backTo pos (starEach es X.env)).any (·.1) = false := by rfl) :
    DEx X EX (.Call (.Name x p) (e :: es) [] pos) (dFn (fun ds R Er => ds.length = n ∧ fn ds R Er) da) := by
  obtain ⟨a, fd, ps, F, g, kp, b⟩ := c.ex
  exact de_fn F (hr.mono hk) hgd hg g kp b passE hn ha hdb he hpl
theorem de_callS {i : Nat} {y : Str} {py : Pos} (c : Cal X.prog X.w X.K X.mg X.base k x (spS X.K n fn)) (hr : Room j X.A) (hk : k ≤ j) (hgd : X.A.guards = some []) (hv : PE X (.Name y py) (tVar i)) (ha : DAx X EX es da) (hg : Gl X x := by rfl) (hdb : (x == ("__debug__" : Str)) = false := by decide)
    (he : starEach (.Name y py :: es) X.env = (false, eval (.Name y py) X.env) :: starEach es X.env := by rfl) (hpl : (backTo pos (starEach es X.env)).any (·.1) = false := by rfl) :
    DEx X EX (.Call (.Name x p) (.Name y py :: es) [] pos) (dFnS i (fun ds R Er => ds.length + 1 = n ∧ fn ds R Er) da) := by
  obtain ⟨a, fd, ps, F, g, kp, b⟩ := c.ex
  exact de_fnS F (hr.mono hk) hgd hg g kp b passE hv ha hdb he hpl
end
end DD

/-! The source's numbers, the script, a new source. -/
namespace DD
open PySem L2
open PyProof.Rows (envOfC)
section
variable {X : Cx} {EX : XK} {a b e : Expr} {es : List Expr} {dx : DE} {p pos : Pos}
theorem de_gintE {x : Str} {i : Int} (hg : Gl X x) (h : ∃ t, X.mg x = some (.int i t)) (hd : (x == ("__debug__" : Str)) = false := by decide) : DEx X EX (.Name x pos) (dC (.int i)) := by
  obtain ⟨t, h⟩ := h
  exact de_gint hg h hd
/-- source[0], source[1] -/
def dSrc0 (i : Nat) : DE := fun ρ R _ => ρ[i]? = some (some .src) ∧ ∀ n : Int, 0 ≤ n → R (.int n) ρ
def dSrc1 (i : Nat) : DE := fun ρ R _ => ρ[i]? = some (some .src) ∧ ∀ n : Int, 0 ≤ n → n < 2147483648 → R (.int n) ρ
theorem de_src0 {i : Nat} {y : Str} {py pk : Pos} {j} (hv : PE X (.Name y py) (tVar i)) (hs : PlainIx (.Constant (.int 0) j pk) := by exact fun _ _ => rfl) : DEx X EX (.Subscript (.Name y py) (.Constant (.int 0) j pk) pos) (dSrc0 i) := by
  refine ⟨_, pe_ix ix_list hv pe_int hs, fun s H0 W0 W σ ρ H R Er Q S eo hd k => ?_⟩
  obtain ⟨hi, hd⟩ := hd
  obtain ⟨v, h1, a, rfl, hsa⟩ := S.slot i _ hi
  obtain ⟨_, _, x, z, q, h2, h3, h4⟩ := S.src a hsa
  exact ⟨_, h1, a, _, 0, .int x, rfl, rfl, SqL.of q, rfl, k _ _ W ρ H (hd x h2) (fun _ z => z) (Ext.refl _ _) S (.int _)⟩
theorem de_src1 {i : Nat} {y : Str} {py pk : Pos} {j} (hv : PE X (.Name y py) (tVar i)) (hs : PlainIx (.Constant (.int 1) j pk) := by exact fun _ _ => rfl) : DEx X EX (.Subscript (.Name y py) (.Constant (.int 1) j pk) pos) (dSrc1 i) := by
  refine ⟨_, pe_ix ix_list hv pe_int hs, fun s H0 W0 W σ ρ H R Er Q S eo hd k => ?_⟩
  obtain ⟨hi, hd⟩ := hd
  obtain ⟨v, h1, a, rfl, hsa⟩ := S.slot i _ hi
  obtain ⟨_, _, x, z, q, h2, h3, h4⟩ := S.src a hsa
  exact ⟨_, h1, a, _, 1, .int z, rfl, rfl, SqL.of q, rfl, k _ _ W ρ H (hd z h3 h4) (fun _ z => z) (Ext.refl _ _) S (.int _)⟩
/-- the source's numbers change -/
theorem SOk.setSrc {K : Fg} {H0 H : Hp} {W0 W : List Addr} {s : Sc} {σ : St} {ρ : Env'} (S : SOk K H0 W0 s W σ ρ H) {a : Addr} (hs : s.src = some a) {x y : Int} (hx : 0 ≤ x) (hy : 0 ≤ y) (hy2 : y < 2147483648) :
    SOk K H0 W0 s W σ ρ (L2.upd H a (.lst [.int x, .int y])) ∧ Ext W H (L2.upd H a (.lst [.int x, .int y])) := by
  obtain ⟨a1, _, x0, y0, q0, _⟩ := S.src a hs
  have hW := S.sub a a1
  refine ⟨S.grow (fun b o n h => by rw [upd_ne (fun e => n (.inl (by rw [e]; exact hs)))]; exact h) (fun b hb => ?_) (tabs_upd S.tab.1 q0), Ext.one q0 hW (fun _ z => by cases z)⟩
  rw [hs] at hb
  cases hb
  exact ⟨x, y, upd_same, hx, hy, hy2⟩
def sSrc0 (i : Nat) (a : DE) : DS := fun D ρ Er => a ρ (fun d ρ1 => ρ1[i]? = some (some .src) ∧ match d with | .int n => 0 ≤ n ∧ D.nx ρ1 | _ => False) Er
def sSrc1 (i : Nat) (a : DE) : DS := fun D ρ Er => a ρ (fun d ρ1 => ρ1[i]? = some (some .src) ∧ match d with | .int n => 0 ≤ n ∧ n < 2147483648 ∧ D.nx ρ1 | _ => False) Er
theorem ds_src0 {i : Nat} {y : Str} {py pk ps : Pos} {j} (hv : PE X (.Name y py) (tVar i)) (ha : DEx X EX e dx)
    (mk : ∀ te, PE X e te → PS X (.Assign [.Subscript (.Name y py) (.Constant (.int 0) j pk) ps] e pos) (tAsg te (gSub (tVar i) (tC (.int 0)) rSetL))) : DSx X EX (.Assign [.Subscript (.Name y py) (.Constant (.int 0) j pk) ps] e pos) (sSrc0 i dx) := by
  obtain ⟨t, p, q⟩ := ha.ex
  refine ⟨_, mk t p, fun s H0 W0 W σ ρ H D Er E S eo hd k => ?_⟩
  refine q s H0 W0 W σ ρ H _ Er _ S eo hd fun v d W1 ρ1 H1 hd1 s1 e1 S1 w1 => ?_
  obtain ⟨hi, hd1⟩ := hd1
  split at hd1
  · cases w1
    obtain ⟨v, h1, a, rfl, hsa⟩ := S1.slot i _ hi
    obtain ⟨_, _, x, z, q, h2, h3, h4⟩ := S1.src a hsa
    obtain ⟨S2, ex⟩ := S1.setSrc hsa hd1.1 h3 h4
    exact ⟨_, h1, a, _, 0, 0, rfl, rfl, q, rfl, k.nx W1 σ ρ1 _ hd1.2 (Step.of s1 (e1.trans (ex.sub s1))) S2⟩
  · exact hd1.elim
theorem ds_src1 {i : Nat} {y : Str} {py pk ps : Pos} {j} (hv : PE X (.Name y py) (tVar i)) (ha : DEx X EX e dx)
    (mk : ∀ te, PE X e te → PS X (.Assign [.Subscript (.Name y py) (.Constant (.int 1) j pk) ps] e pos) (tAsg te (gSub (tVar i) (tC (.int 1)) rSetL))) : DSx X EX (.Assign [.Subscript (.Name y py) (.Constant (.int 1) j pk) ps] e pos) (sSrc1 i dx) := by
  obtain ⟨t, p, q⟩ := ha.ex
  refine ⟨_, mk t p, fun s H0 W0 W σ ρ H D Er E S eo hd k => ?_⟩
  refine q s H0 W0 W σ ρ H _ Er _ S eo hd fun v d W1 ρ1 H1 hd1 s1 e1 S1 w1 => ?_
  obtain ⟨hi, hd1⟩ := hd1
  split at hd1
  · cases w1
    obtain ⟨v, h1, a, rfl, hsa⟩ := S1.slot i _ hi
    obtain ⟨_, _, x, z, q, h2, h3, h4⟩ := S1.src a hsa
    obtain ⟨S2, ex⟩ := S1.setSrc hsa h2 hd1.1 hd1.2.1
    exact ⟨_, h1, a, _, 1, 1, rfl, rfl, q, rfl, k.nx W1 σ ρ1 _ hd1.2.2 (Step.of s1 (e1.trans (ex.sub s1))) S2⟩
  · exact hd1.elim
/-! ### the script -/
theorem scr_at {ns : List Int} {i : Int} {n : Int} (h : atI ns i = some n) : atI (ns.map V.int) i = some (V.int n) := by
  unfold atI at h ⊢
  rw [List.length_map]
  cases e : ixN ns.length i with
  | none => rw [e] at h; cases h
  | some j =>
    rw [e] at h
    have h' : ns[j]? = some n := h
    show (ns.map V.int)[j]? = _
    rw [List.getElem?_map, h']; rfl
/-- script[e] -/
def dScrIx (i : Nat) (a : DE) : DE := fun ρ R Er => (∃ ns, ρ[i]? = some (some (.scr ns))) ∧ a ρ (fun d ρ1 => match d, ρ1[i]? with
  | .int j, some (some (.scr ns)) => ∃ n, atI ns j = some n ∧ R (.int n) ρ1
  | _, _ => False) Er
theorem de_scrIx {i : Nat} {y : Str} {py : Pos} (hv : PE X (.Name y py) (tVar i)) (ha : DEx X EX a dx) (hs : PlainIx a := by exact fun _ _ => rfl) : DEx X EX (.Subscript (.Name y py) a pos) (dScrIx i dx) := by
  obtain ⟨t, pa, q⟩ := ha.ex
  refine ⟨_, pe_ix ix_list hv pa hs, fun s H0 W0 W σ ρ H R Er Q S eo hd k => ?_⟩
  obtain ⟨⟨ns0, h0⟩, hd⟩ := hd
  obtain ⟨v0, g0, a0, rfl, _⟩ := S.slot i _ h0
  refine ⟨_, g0, q s H0 W0 W σ ρ H _ Er _ S eo hd fun v d W1 ρ1 H1 hd1 s1 e1 S1 w1 => ?_⟩
  split at hd1
  · rename_i j ns hi
    cases w1
    obtain ⟨v, g1, a1, rfl, q1⟩ := S1.slot i _ hi
    rw [g0] at g1
    cases g1
    obtain ⟨n, hn, hR⟩ := hd1
    exact ⟨a0, _, j, _, rfl, rfl, q1.sq, scr_at hn, k _ _ W1 ρ1 H1 hR s1 e1 S1 (.int _)⟩
  · exact hd1.elim
/-- for .. in script -/
def dScr (i : Nat) : DI := fun ρ R _ => match ρ[i]? with | some (some (.scr ns)) => R (ns.map .int) ρ | _ => False
theorem di_scr {tg : Expr} {i : Nat} {y : Str} {py : Pos} (hv : PE X (.Name y py) (tVar i)) : DIx X EX tg (.Name y py) (dScr i) := by
  refine ⟨_, pi_list hv, fun s H0 W0 W σ ρ H R Er Q S eo hd k => ?_⟩
  unfold dScr at hd
  split at hd
  · rename_i ns hi
    obtain ⟨v, g1, a1, rfl, q1⟩ := S.slot i _ hi
    refine ⟨_, g1, a1, rfl, ⟨_, q1.sq⟩, k _ _ W ρ H hd (fun _ z => z) (Ext.refl _ _) S ⟨fun j W2 H2 d st _ hj => ?_, fun j W2 H2 st hj => ?_⟩⟩
    · have hq : SqL X.K H2 a1 (ns.map V.int) := (q1.go (H' := H2) (W' := W) fun o n h => ⟨st.1.un n h, n⟩).sq
      rw [List.getElem?_map] at hj
      cases e : ns[j]? with
      | none => rw [e] at hj; cases hj
      | some n =>
        rw [e] at hj
        cases hj
        have hv' : (ns.map V.int)[j]? = some (V.int n) := by rw [List.getElem?_map, e]; rfl
        refine ⟨⟨_, _, hq, hv'⟩, fun x H3 y => ?_⟩
        obtain ⟨e1, y⟩ := y
        subst e1
        have := y _ hq
        rw [hv'] at this
        cases this
        exact ⟨Same.refl _, .int _⟩
    · exact ⟨_, (q1.go (H' := H2) (W' := W) fun o n h => ⟨st.1.un n h, n⟩).sq, by simpa using hj⟩
  · exact hd.elim
/-! ### a new source -/
/-- what makes a source: of the script and a number -/
def spN (K : Fg) (ok : List Int → Int → Prop) : Sp := fun vs H Q _ => ∃ (c : Addr) (ns : List Int) (W : List Addr) (j : Int), vs = [.ref c, .int j] ∧ Wok H W ∧ ScrAt K H W c (ns.map V.int) ∧ ok ns j ∧
  ∀ (p : Addr) (H' : Hp), Same H H' → H p = none → SrcAt H' p → Q (.ref p) H'
def noOwn (ρ : Env') : Prop := ∀ (i : Nat) (d : D), ρ[i]? = some (some d) → (∃ x, d = .dat x) ∨ ∃ ns, d = .scr ns
/-- no slot holds the source any more -/
def unSrc (ρ : Env') : Env' := ρ.map fun d => match d with
  | some .src => none
  | d => d
theorem unSrc_get {ρ : Env'} {i : Nat} {d : D} (h : (unSrc ρ)[i]? = some (some d)) : ρ[i]? = some (some d) ∧ d ≠ .src := by
  unfold unSrc at h
  rw [List.getElem?_map] at h
  cases e : ρ[i]? with
  | none => rw [e] at h; cases h
  | some x =>
    rw [e] at h
    cases x with
    | none => cases h
    | some y =>
      cases y with
      | src => cases h
      | dat y => cases h; exact ⟨rfl, by simp⟩
      | own y => cases h; exact ⟨rfl, by simp⟩
      | scr y => cases h; exact ⟨rfl, by simp⟩
      | obj y => cases h; exact ⟨rfl, by simp⟩
def sNew (i l : Nat) (ok : List Int → Int → Prop) (a : DE) (rest : DS) : DS := fun D ρ Er => noOwn ρ ∧ ∃ ns, ρ[l]? = some (some (.scr ns)) ∧ a ρ (fun d ρ1 => ρ1 = ρ ∧ match d with
  | .int j => ok ns j ∧ rest { D with nx := fun ρ2 => D.nx (unSrc ρ2), rt := fun d ρ2 => D.rt d (unSrc ρ2), bk := fun ρ2 => D.bk (unSrc ρ2), ct := fun ρ2 => D.ct (unSrc ρ2) } (ρ.set i (some .src)) Er
  | _ => False) Er
theorem db_new {i l k j0 : Nat} {x y : Str} {px py p2 p3 : Pos} {b : Expr} {db : DE} {rest : List Stmt} {dr : DS} {ok : List Int → Int → Prop} (c : Cal X.prog X.w X.K X.mg X.base k x (spN X.K ok)) (hr : Room j0 X.A) (hk : k ≤ j0) (hgd : X.A.guards = some [])
    (hv : PE X (.Name y py) (tVar l)) (hb : DEx X EX b db) {z : Str} (mk : ∀ te, PE X (.Call (.Name x p2) [.Name y py, b] [] p3) te → PS X (.Assign [.Name z px] (.Call (.Name x p2) [.Name y py, b] [] p3) pos) (tAsg te (gName i))) (hrest : DBx X EX rest dr)
    (hg : Gl X x := by rfl) (hdb : (x == ("__debug__" : Str)) = false := by decide)
    (he : starEach [.Name y py, b] X.env = (false, eval (.Name y py) X.env) :: starEach [b] X.env := by rfl) (he2 : starEach [b] X.env = (false, eval b X.env) :: starEach [] X.env := by rfl) (hpl : (backTo p3 (starEach [b] X.env)).any (·.1) = false := by rfl) :
    DBx X EX (.Assign [.Name z px] (.Call (.Name x p2) [.Name y py, b] [] p3) pos :: rest) (sNew i l ok db dr) := by
  obtain ⟨fa, fd, ps, F, g, kp, bd⟩ := c.ex
  obtain ⟨t, p, q⟩ := hb.ex
  obtain ⟨t2, p2', q2⟩ := hrest.ex
  refine ⟨_, pss_cons (mk _ (pe_callG (E := EX) F (hr.mono hk) hgd hg g kp bd passE (pa_cons hv (pa_cons p pa_nil he2) he) hdb he hpl)) p2', fun s H0 W0 W σ ρ H D Er E S eo hd kk => ?_⟩
  obtain ⟨hno, ns, hl, hd⟩ := hd
  obtain ⟨v, g1, c, rfl, hc⟩ := S.slot l _ hl
  refine ⟨_, g1, q s H0 W0 W σ ρ H _ Er _ S eo hd fun u d W1 ρ1 H1 hd1 s1 e1 S1 w1 => ?_⟩
  obtain ⟨rfl, hd1⟩ := hd1
  split at hd1
  · rename_i j
    cases w1
    refine ⟨c, ns, W1, j, rfl, S1.tr, hc.go fun o n h => ⟨e1.un n h, fun z => n (s1 _ z)⟩, hd1.1, fun p H2 sm hp hsrc => ?_⟩
    show t2 E (σ.set i (some (.ref p))) H2
    have S2 := S1.same sm
    have hp0 := S1.fresh0 hp
    have hsp : ¬ s.Has p := fun e => by
      obtain ⟨o, q⟩ := S1.tr p (S1.sub p (S1.has p e).1)
      rw [hp] at q; cases q
    have hxp : ∀ b, b ≠ p → ¬ s.Has b → ¬ (Sc.mk (some p) s.tab s.fn s.pin).Has b := fun b n1 n2 z => by
      rcases z with z | z
      · cases z; exact n1 rfl
      · exact n2 (.inr z)
    have exp : ∀ {v x}, Dw X.K H1 W1 v x → Dw X.K H2 (p :: W1) v x := fun {v x} h => (Dw.new (o := .lst []) hp h).to (fun b o n h => by
      rw [upd_ne (fun e => by
        rcases n with n | ⟨xs, rfl⟩
        · exact n (by rw [e]; exact List.mem_cons_self)
        · rw [e, upd_same] at h; cases h)] at h
      exact sm b o h) fun _ z => z
    have Sn : SOk X.K H2 (p :: W1) ⟨some p, s.tab, s.fn, s.pin⟩ (p :: W1) (σ.set i (some (.ref p))) (ρ1.set i (some .src)) H2 := by
      have tr : ∀ a ∈ p :: W1, ∃ o, H2 a = some o := fun a ha => by
        rcases List.mem_cons.mp ha with rfl | ha
        · obtain ⟨x, z, q, _⟩ := hsrc
          exact ⟨_, q⟩
        · exact S2.tr a ha
      refine ⟨fun _ z => z, tr, fun _ z => .inl z, tr, fun _ _ h _ => h, fun a ha => ?_, ⟨S2.tab.1, fun q hq => ⟨List.mem_cons_of_mem _ (S1.sub _ (S1.tab.2 q hq).1), S2.tr _ (S1.sub _ (S1.tab.2 q hq).1)⟩⟩, fun k d hk => ?_, fun k k2 v ds es h1 => ?_, by simp [S1.len.1], fun b hb es h0 => ?_⟩
      · cases ha
        exact ⟨List.mem_cons_self, tr p List.mem_cons_self, hsrc⟩
      · by_cases e : i = k
        · subst e
          have il : i < ρ1.length := by simpa using (List.getElem?_eq_some_iff.mp hk).1
          rw [List.getElem?_set_self il] at hk
          cases hk
          exact ⟨_, by rw [List.getElem?_set_self (by rw [S1.len.1]; exact il)], p, rfl, rfl⟩
        · rw [List.getElem?_set_ne e] at hk
          rw [List.getElem?_set_ne e]
          obtain ⟨v, a1, a2⟩ := S1.slot k d hk
          refine ⟨v, a1, ?_⟩
          rcases hno k d hk with ⟨x, rfl⟩ | ⟨ms, rfl⟩
          · exact exp a2
          · obtain ⟨a, rfl, b1⟩ := a2
            exact ⟨a, rfl, b1.go fun o n h => ⟨sm a _ h, by simp only [List.mem_cons, not_or]; exact ⟨ne_of_none h hp, n⟩⟩⟩
      · exfalso
        by_cases e : i = k
        · subst e
          have il : i < ρ1.length := by simpa using (List.getElem?_eq_some_iff.mp h1).1
          rw [List.getElem?_set_self il] at h1
          cases h1
        · rw [List.getElem?_set_ne e] at h1
          rcases hno k _ h1 with ⟨x, e⟩ | ⟨ms, e⟩ <;> cases e
      · exfalso
        by_cases e : i = 0
        · subst e
          have il : 0 < ρ1.length := by simpa using (List.getElem?_eq_some_iff.mp h0).1
          rw [List.getElem?_set_self il] at h0
          cases h0
        · rw [List.getElem?_set_ne e] at h0
          rcases hno 0 _ h0 with ⟨x, e⟩ | ⟨ms, e⟩ <;> cases e
    have src0 : ∀ {H3 : Hp}, (∀ b o, H2 b = some o → ¬ (Sc.mk (some p) s.tab s.fn s.pin).Has b → H3 b = some o) → ∀ a, s.src = some a → SrcAt H3 a := fun {H3} fr a ha => (S2.src a ha).2.2.stay fun o h => fr a o h fun z => by
      rcases z with z | ⟨q, hq, e⟩
      · cases z; exact hsp (.inl ha)
      · obtain ⟨x, y, q1, _⟩ := (S2.src a ha).2.2
        obtain ⟨ps, q2, _⟩ := S2.tab.1 q hq
        rw [e, q1] at q2
        cases q2
    have fr0 : ∀ {H3 : Hp}, (∀ b o, H2 b = some o → ¬ (Sc.mk (some p) s.tab s.fn s.pin).Has b → H3 b = some o) → ∀ b o, H0 b = some o → ¬ s.Has b → H3 b = some o := fun {H3} fr b o h n => fr b o (S2.frame b o h n) (hxp b (fun e => by rw [e, hp0] at h; cases h) n)
    have eon : ErOk X.K H2 (p :: W1) ⟨some p, s.tab, s.fn, s.pin⟩ EX Er := ⟨eo.tabs, fun C d dd v H3 her fr hsr htb hdd hxd hdw =>
      eo.wish C d dd v H3 her (fr0 fr) (src0 fr) htb (S2.fresh0 hdd) hxd (hdw.to (Ext.refl _ _) fun a ha => List.mem_cons_of_mem _ (S1.sub a ha))⟩
    have back : ∀ {W' : List Addr} {σ' : St} {ρ' : Env'} {H3 : Hp}, SOk X.K H2 (p :: W1) ⟨some p, s.tab, s.fn, s.pin⟩ W' σ' ρ' H3 → SOk X.K H0 W0 s W' σ' (unSrc ρ') H3 := fun {W' σ' ρ' H3} T => by
      refine ⟨fun a ha => T.sub a (List.mem_cons_of_mem _ (S1.sub a ha)), S1.tr0, fun a ha => ?_, T.tr, fr0 T.frame, fun a ha => ⟨(S1.src a ha).1, (S1.src a ha).2.1, src0 T.frame a ha⟩, ⟨T.tab.1, S1.tab.2⟩, fun k d hk => ?_, fun k k2 v ds es h1 h2 h3 h4 => T.uniq k k2 v ds es (unSrc_get h1).1 (unSrc_get h2).1 h3 h4, by rw [T.len.1]; simp [unSrc], fun b hb es h0 => T.len.2 b hb es (unSrc_get h0).1⟩
      · rcases T.new a ha with z | z
        · rcases List.mem_cons.mp z with rfl | z
          · exact .inr hp0
          · exact S1.new a z
        · exact .inr (S2.fresh0 z)
      · obtain ⟨hk, hne⟩ := unSrc_get hk
        obtain ⟨v, a1, a2⟩ := T.slot k d hk
        refine ⟨v, a1, ?_⟩
        cases d with
        | dat d => exact a2
        | own es =>
          obtain ⟨a, ys, rfl, r1, r2, r3, r4⟩ := a2
          exact ⟨a, ys, rfl, r1, S2.fresh0 r2, r3, r4⟩
        | src => exact absurd rfl hne
        | scr ms => exact a2
        | obj ob =>
          obtain ⟨a, u, rfl, r1, r2, r3, r4⟩ := a2
          exact ⟨a, u, rfl, r1, S2.fresh0 r2, r3, r4⟩
    have st1 : Step W H (p :: W1) H2 := (Step.of s1 e1).trans ⟨Ext.same sm, fun x hx => by
      rcases List.mem_cons.mp hx with rfl | hx
      · exact .inr hp
      · exact .inl hx⟩
    exact q2 ⟨some p, s.tab, s.fn, s.pin⟩ H2 (p :: W1) (p :: W1) _ _ H2 _ Er E Sn eon hd1.2 ⟨fun W' σ' ρ' H' h st T => kk.nx W' σ' _ H' h (st1.trans st) (back T), fun W' σ' ρ' H' v d h T w => kk.rt W' σ' _ H' v d h (back T) w,
      fun W' σ' ρ' H' h st T => kk.bk W' σ' _ H' h (st1.trans st) (back T), fun W' σ' ρ' H' h st T => kk.ct W' σ' _ H' h (st1.trans st) (back T)⟩
  · exact hd1.elim
end
end DD

/-! A def that makes a source; the law; the end. -/
namespace DD
open PySem L2
open PyProof.Rows (envOfC IntsAre AllBare)
/-! ### a block that ends by handing back a new list -/
abbrev DN := Env' → (List PyData → Prop) → Er' → Prop
structure DNx (X : Cx) (EX : XK) (st : List Stmt) (dn : DN) : Prop where
  ex : ∃ t, PSs X st t ∧ ∀ (s : Sc) (H0 : Hp) (W0 W : List Addr) (σ : St) (ρ : Env') (H : Hp) (R : List PyData → Prop) (Er : Er') (E : Ends), SOk X.K H0 W0 s W σ ρ H → ErOk X.K H0 W0 s EX Er → dn ρ R Er →
    (∀ (vs : List V) (ds : List PyData) (p : Addr) (W' : List Addr) (ρ' : Env') (H' : Hp), R ds → SOk X.K H0 W0 s W' σ ρ' H' ∨ (∃ σ', SOk X.K H0 W0 s W' σ' ρ' H') → H' p = none → DwA X.K H' W' vs ds → E.rt (.ref p) (upd H' p (.lst vs))) → t E σ H
def nRet (a : DA) : DN := fun ρ R Er => a ρ (fun ds _ => ds.length ≤ big ∧ R ds) Er
def nSeq (a : DS) (b : DN) : DN := fun ρ R Er => a { nx := fun ρ1 => b ρ1 R Er, rt := fun _ _ => False } ρ Er
section
variable {X : Cx} {EX : XK} {st : Stmt} {rest : List Stmt} {es : List Expr} {da : DA} {ds : DS} {dn : DN} {p2 pos : Pos}
theorem dn_ret (ha : DAx X EX es da) : DNx X EX [.Return (some (.List es p2)) pos] (nRet da) := by
  obtain ⟨t, p, q⟩ := ha.ex
  refine ⟨_, pss_one (ps_ret (pe_lst p)), fun s H0 W0 W σ ρ H R Er E S eo hd k => ?_⟩
  refine q s H0 W0 W σ ρ H _ Er _ S eo hd fun vs ds W1 ρ1 H1 hd1 s1 e1 S1 w1 => ⟨big_le (by rw [w1.length]; exact hd1.1), fun a ha => ?_⟩
  exact k vs ds a W1 ρ1 H1 hd1.2 (.inl S1) ha w1
theorem dn_cons (h1 : DSx X EX st ds) (h2 : DNx X EX rest dn) : DNx X EX (st :: rest) (nSeq ds dn) := by
  obtain ⟨t, p, q⟩ := h1.ex
  obtain ⟨t2, p2, q2⟩ := h2.ex
  refine ⟨_, pss_cons p p2, fun s H0 W0 W σ ρ H R Er E S eo hd k => ?_⟩
  refine q s H0 W0 W σ ρ H _ Er _ S eo hd ⟨fun W' σ' ρ' H' h st S' => ?_, fun _ _ _ _ _ _ h => h.elim, fun _ _ _ _ h => h.elim, fun _ _ _ _ h => h.elim⟩
  refine q2 s H0 W0 W' σ' ρ' H' R Er E S' eo h fun vs ds a W2 ρ2 H2 hR hS ha hq => ?_
  exact k vs ds a W2 ρ2 H2 hR (.inr (hS.elim (fun z => ⟨_, z⟩) id)) ha hq
end
section
variable {P : Program} {w : World} {K : Fg} {mg : Str → Option Value} {base : Heap}
def startN (n : Nat) (ns : List Int) (j : Int) : Env' := some (.scr ns) :: some (.dat (.int j)) :: List.replicate (n - 2) none
theorem fun_n0 {x qual : Str} {st : Stmt} {f : Addr} {fd : FuncData} {N ps : List Str} {k : Nat} {ok : List Int → Int → Prop} (F : Fun K x qual st f fd) (S : FnScope N ps (defScope st)) (hn : ps.length = 2) (hN : 2 ≤ N.length)
    (dn : DN) (h : ∀ (cdv : Value) (A : Around) (outer : List Env) (s : Shared) (H : Hp) (E : XK), Room k (A.deeper (envOfC qual (defScope st) s.heap.objs.size f cdv)) → A.guards = some [] → DNx (CXn P w K mg base N qual st f cdv A outer s H E) E0 (defBody st) dn)
    (hd : ∀ ns j, ok ns j → dn (startN N.length ns j) (fun ds => ∃ x y : Int, ds = [.int x, .int y] ∧ 0 ≤ x ∧ 0 ≤ y ∧ y < 2147483648) noEr) :
    FnG P w K mg base CX0 (k + 1) f fd ps (spN K ok) := by
  obtain ⟨oc, od, kV, doc, pm, an, cdv, ct, osl, rfl, lk, hcd⟩ := F.ex
  refine fn_g lk hcd S (fun vs H Q E h => ?_) fun A outer s H vs Q E hr hgd hsp => ?_
  · obtain ⟨c, ns, W, j, rfl, _⟩ := h
    rw [hn]; rfl
  obtain ⟨t, p, q⟩ := (h cdv A outer s H E hr hgd).ex
  obtain ⟨c, ns, W, j, rfl, hW, hsc, hok, k1⟩ := hsp
  refine ⟨t, p.nox, ?_⟩
  have e0 : L2.start N [V.ref c, V.int j] = some (V.ref c) :: some (V.int j) :: List.replicate (N.length - 2) none := rfl
  have S0 : SOk K H W sc0 W (L2.start N [V.ref c, V.int j]) (startN N.length ns j) H := by
    rw [e0]
    refine ⟨fun _ z => z, hW, fun _ z => .inl z, hW, fun _ _ h _ => h, (fun _ z => nomatch z), ⟨tabs0, fun _ h => by cases h⟩, fun i d h => ?_, fun i j v es fs h1 => ?_, by simp [startN], fun _ z => nomatch z⟩
    · match i with
      | 0 => simp [startN] at h; subst h; exact ⟨_, rfl, c, rfl, hsc⟩
      | 1 => simp [startN] at h; subst h; exact ⟨_, rfl, .int _⟩
      | i + 2 =>
        simp only [startN, List.getElem?_cons_succ, List.getElem?_replicate] at h
        split at h <;> cases h
    · exfalso
      match i with
      | 0 => simp [startN] at h1
      | 1 => simp [startN] at h1
      | i + 2 =>
        simp only [startN, List.getElem?_cons_succ, List.getElem?_replicate] at h1
        split at h1 <;> cases h1
  refine q sc0 H W W _ _ H _ noEr _ S0 erOk_no (hd ns j hok) fun vs ds a W2 ρ2 H2 hR hS ha hq => ?_
  obtain ⟨σ2, S2⟩ : ∃ σ', SOk K H W sc0 W2 σ' ρ2 H2 := hS.elim (fun z => ⟨_, z⟩) id
  obtain ⟨x, y, rfl, h1, h2, h3⟩ := hR
  have hv : vs = [.int x, .int y] := by
    cases hq with
    | cons a1 b => cases b with
      | cons a2 c => cases c; cases a1; cases a2; rfl
  subst hv
  refine k1 a _ (fun b o hb => ?_) (S2.fresh0 ha) ⟨x, y, upd_same, h1, h2, h3⟩
  have := S2.frame b o hb Sc.no0
  rw [upd_ne (ne_of_none this ha)]
  exact this
/-! ### the law: of the script alone -/
def spL (K : Fg) (ok : List Int → Prop) : Sp := fun vs H Q _ => ∃ (a : Addr) (ns : List Int), vs = [.ref a] ∧ ScrAt K H [] a (ns.map V.int) ∧ ok ns ∧ ∀ H', Q (.bl true) H'
theorem fun_l0 {x qual : Str} {st : Stmt} {f : Addr} {fd : FuncData} {N ps : List Str} {k : Nat} {ok : List Int → Prop} (F : Fun K x qual st f fd) (S : FnScope N ps (defScope st)) (hn : ps.length = 1) (hN : 1 ≤ N.length)
    (dt : DS) (h : ∀ (cdv : Value) (A : Around) (outer : List Env) (s : Shared) (H : Hp) (E : XK), Room k (A.deeper (envOfC qual (defScope st) s.heap.objs.size f cdv)) → A.guards = some [] → DBx (CXn P w K mg base N qual st f cdv A outer s H E) E0 (defBody st) dt)
    (hd : ∀ ns, ok ns → dt { nx := fun _ => False, rt := fun d _ => d = .bool true } (some (.scr ns) :: List.replicate (N.length - 1) none) noEr) :
    FnG P w K mg base CX0 (k + 1) f fd ps (spL K ok) := by
  obtain ⟨oc, od, kV, doc, pm, an, cdv, ct, osl, rfl, lk, hcd⟩ := F.ex
  refine fn_g lk hcd S (fun vs H Q E h => ?_) fun A outer s H vs Q E hr hgd hsp => ?_
  · obtain ⟨c, ns, rfl, _⟩ := h
    rw [hn]; rfl
  obtain ⟨t, p, q⟩ := (h cdv A outer s H E hr hgd).ex
  obtain ⟨c, ns, rfl, hsc, hok, k1⟩ := hsp
  refine ⟨t, p.nox, ?_⟩
  have e0 : L2.start N [V.ref c] = some (V.ref c) :: List.replicate (N.length - 1) none := rfl
  have S0 : SOk K H [] sc0 [] (L2.start N [V.ref c]) (some (.scr ns) :: List.replicate (N.length - 1) none) H := by
    rw [e0]
    refine ⟨fun _ z => z, (fun _ z => absurd z (by simp)), fun _ z => .inl z, (fun _ z => absurd z (by simp)), fun _ _ h _ => h, (fun _ z => nomatch z), ⟨tabs0, fun _ h => by cases h⟩, fun i d h => ?_, fun i j v es fs h1 => ?_, by simp, fun _ z => nomatch z⟩
    · match i with
      | 0 => simp at h; subst h; exact ⟨_, rfl, c, rfl, hsc⟩
      | i + 1 =>
        simp only [List.getElem?_cons_succ, List.getElem?_replicate] at h
        split at h <;> cases h
    · exfalso
      match i with
      | 0 => simp at h1
      | i + 1 =>
        simp only [List.getElem?_cons_succ, List.getElem?_replicate] at h1
        split at h1 <;> cases h1
  refine q sc0 H [] [] _ _ H _ noEr _ S0 erOk_no (hd ns hok) ⟨fun _ _ _ _ h => h.elim, fun W' σ' ρ' H' v d h S' w' => ?_, fun _ _ _ _ h => h.elim, fun _ _ _ _ h => h.elim⟩
  subst h
  cases w'
  exact k1 H'
/-! ### the end -/
theorem law_run {mb : Str → Option Value} {k : Nat} {fa a : Addr} {fd : FuncData} {x : Str} {ok : List Int → Prop} {t : Shared} {vs : List Value} {ns : List Int} (KX : K.In t.heap) (g1 : t.heap.Ns mainGlobals mg) (g2 : t.heap.Ns builtinsNs mb) (g3 : ∀ y : Str, y ≠ "__name__" → mb y = bootBuiltins y)
    (nl : t.heap.NoLimit) (hg : t.gens = #[]) (ha : t.heap.get? a = some { cls := .type "list", data := .seq vs.toArray }) (hi : IntsAre vs ns) (hl : ns.length ≤ sizeLine) (hr : Room k callerA)
    (F : ∀ base : Heap, K.In base → base.Ns mainGlobals mg → FnG P w K mg base CX0 k fa fd [x] (spL K ok)) (hb : ∀ (s : Shared) (u : Value), BindsTo s fd ⟨[u], []⟩ [(x, u)]) (hok : ok ns) :
    codeAny (model P w) callerA (.call (.ref fa) ⟨[.ref a], []⟩) (fun r t' => r = .ok (.ret (.bool true)) ∧ OldK t.heap t'.heap ∧ t'.os = t.os ∧ AllBare t'.gens) t := by
  have rv := vals_ints hi
  have lv := hi.length
  -- H: nothing but, it may be, the script
  have core : ∀ H : Hp, (∀ b u, H b = some u → b = a ∧ K.lookup a = none ∧ u = .frz { cls := .type "list", data := .seq vs.toArray } (.lst (ns.map V.int))) → ScrAt K H [] a (ns.map V.int) →
      codeAny (model P w) callerA (.call (.ref fa) ⟨[.ref a], []⟩) (fun r t' => r = .ok (.ret (.bool true)) ∧ OldK t.heap t'.heap ∧ t'.os = t.os ∧ AllBare t'.gens) t := by
    intro H hO hS
    have ok0 : HOk P w H t.heap := fun b u e => by
      obtain ⟨rfl, _, rfl⟩ := hO b u e
      exact ⟨ha, by rw [List.length_map]; exact hl, vs, _, rv, ha⟩
    have none_of : ∀ {b : Addr} {o : Obj}, t.heap.get? b = some o → (b = a → o.data = .seq vs.toArray 0 → False) → H b = none := fun {b o} e n => by
      cases q : H b with
      | none => rfl
      | some u =>
        obtain ⟨rfl, _, _⟩ := hO b u q
        rw [ha] at e
        cases e
        exact (n rfl rfl).elim
    have ns_of : ∀ {b : Addr} {m : Str → Option Value}, t.heap.Ns b m → (hidT t.heap H).Ns b m := fun {b m} h => by
      obtain ⟨o, es, ep, e, d, r⟩ := h
      exact ⟨o, es, ep, hidT_get e (none_of e fun _ z => by rw [d] at z; cases z), d, r⟩
    have kb : K.In (hidT t.heap H) := fun b o e => hidT_get (KX b o e) (by
      cases q : H b with
      | none => rfl
      | some u =>
        obtain ⟨rfl, z, _⟩ := hO b u q
        rw [z] at e
        cases e)
    have md : Mod K mg (hidT t.heap H) := ⟨kb, ns_of g1, ⟨mb, ns_of g2, g3⟩, nl.elim fun mc h => ⟨mc, ns_of h.1, h.2⟩⟩
    have en : Env0 P w K mg (hidT t.heap H) callerA [] t H := ⟨rfl, md, fun b o e => of_hidT e, Nat.le_of_eq (hidT_size _ _), trivial, (fun b z => absurd (show b ∈ ([] : List Addr) from z) (by simp)), ok0, .of_eq hg⟩
    refine codeAny_mono ((F _ kb (ns_of g1)).run callerA [] t H ⟨[.ref a], []⟩ [.ref a] [.ref a] (fun v _ => v = .bl true) (fun _ _ _ => False) hr rfl en (hb t (.ref a)) (.cons rfl .nil) ⟨a, ns, rfl, hS, hok, fun _ => rfl⟩) fun r t' h => ?_
    rcases r with e | fl
    · exact (show False from h).elim
    · cases fl with
      | ret u =>
        obtain ⟨v, H', os, bare, un, ok', r', q⟩ := h
        have q' : v = .bl true := q
        subst q'
        obtain rfl : u = Value.bool true := r'
        refine ⟨rfl, OldK.of_keep fun b o e => ?_, os, bare⟩
        cases q : H b with
        | none => exact un.keep b o e q (fun z => absurd (show b ∈ ([] : List Addr) from z) (by simp)) (by simp)
        | some u =>
          obtain ⟨rfl, _, rfl⟩ := hO b u q
          obtain ⟨e2, _⟩ := ok' b _ (un.frzs b _ _ q)
          rw [ha] at e
          cases e
          exact e2
      | next => exact (show False from h).elim
      | brk => exact (show False from h).elim
      | cont => exact (show False from h).elim
  cases hk : K.lookup a with
  | some o =>
    have e := KX a o hk
    rw [ha] at e
    cases e
    exact core (fun _ => none) (fun b u z => nomatch z) (.inr ⟨_, vs.toArray, _, hk, rfl, rfl, rfl, by rw [List.size_toArray, lv]; exact hl, by simpa using rv⟩)
  | none =>
    refine core (upd (fun _ => none) a (.frz { cls := .type "list", data := .seq vs.toArray } (.lst (ns.map V.int)))) (fun b u z => ?_) (.inl ⟨by simp, _, upd_same⟩)
    by_cases e : b = a
    · subst e
      rw [upd_same] at z
      cases z
      exact ⟨rfl, hk, rfl⟩
    · rw [upd_ne e] at z
      cases z
end
open PySem.W in
theorem walk_g {l : OpenLaw} {n k : Nat} {q : Program} {loose : List Str} {XP : (Str → Option Value) → Heap → Prop} {YP : World → Heap → Prop} {d : DefRec} {K : Params → Frag} {x : Str} {ok : List Int → Prop} (hn : l.most = some n) (hn2 : n ≤ sizeLine) (hdf : d.params.defaults = []) (hr : Room k callerA)
    (hY : ∀ (w : World) (h : Heap), YP w h → (K w.params).In h)
    (F : ∀ (w : World) (mg : Str → Option Value) (fa : Addr) (h : Heap), (K w.params).In h → h.Ns mainGlobals mg → mg d.name = some (.ref fa) →
      ∃ fd : FuncData, (∀ (s : Shared) (u : Value), BindsTo s fd ⟨[u], []⟩ [(x, u)]) ∧ ∀ base : Heap, (K w.params).In base → base.Ns mainGlobals mg → FnG l.prog w (K w.params) mg base CX0 k fa fd [x] (spL (K w.params) ok))
    (hok : ∀ ns : List Int, ns.length ≤ n → (∀ z ∈ ns, Builtin.Int.intBits z ≤ 1048576) → ok ns) : WalkO q loose XP YP l.row.toRowW d [] (fun f vs => PySem.call f vs) := by
  refine Att.attach_callB hn hdf fun w s₀ t mg mb fa o pm cd doc a vs ns G Y ho hd hcd hmg hobj hints hlen hbits hg => ?_
  obtain ⟨fd, hb, hF⟩ := F w mg fa _ (hY w _ Y) G.T.g hmg
  exact law_run (hY w _ Y) G.T.g G.T.b G.T.builtins G.T.nolimit hg hobj hints (Nat.le_trans hlen hn2) hr hF hb (hok ns hlen hbits)
end DD

namespace DD
open PySem L2
/-- {k: ()} -/
theorem de_dict1t {X : Cx} {EX : XK} {k : Int} {j p1 p2 x1 pos} : DEx X EX (.Dict [some (.Constant (.int k) j p1)] [.Tuple [] x1 p2] pos) (dC (.dict [(.int k, .tuple [])])) := by
  refine ⟨_, pe_disp (pps_cons (pe_int (X := X)) (pe_tup pa_nil) pps_nil) rfl rfl (by simp) (by simp), fun s H0 W0 W σ ρ H R Er Q S eo hd kk => ?_⟩
  intro p hp
  refine ⟨by decide, fun q hq => ?_⟩
  have qp : p ≠ q := by rintro rfl; rw [upd_same] at hq; cases hq
  have hq0 : H q = none := by rw [upd_ne (Ne.symm qp)] at hq; exact hq
  refine ⟨by rw [upd_ne qp]; exact upd_same, [(.inl k, .ref q)], rfl, by simp, ?_⟩
  have sm : Same H (upd (upd (upd H p (.dK [])) q (.tup [])) p (.dK (mergeK [] [(Sum.inl k, V.ref q)]))) := fun b o e => by
    rw [upd_ne (ne_of_none e hp), upd_ne (ne_of_none e hq0), upd_ne (ne_of_none e hp)]; exact e
  refine kk _ _ W ρ _ hd (fun _ z => z) (Ext.same sm) (S.same sm) ?_
  refine .dct (kvs := [(.inl k, .ref q)]) (S.fresh hp) ?_ rfl ?_
  · rw [upd_same]; rfl
  · exact .cons (.tup (by rw [upd_ne (Ne.symm qp), upd_same]) .nil) .nil
end DD

namespace DD
open PySem L2
theorem def_mk {K : Fg} {h : Heap} {mg : Str → Option Value} (X : K.In h) (G : h.Ns mainGlobals mg) {x : Str} {st : Stmt} {f : Addr} {oc : Value} {od an : Option Addr} {osl : Array (Option Value)} {kV doc pm cdv ct : Value} {ps : List Str}
    (a : PySem.W.nsIn K mainGlobals x = some (some (.ref f))) (l : K.lookup f = some ⟨oc, od, .func (PySem.W.fnOf x x (defArgs st) (defBody st) (defScope st) .none kV doc pm an cdv ct), osl⟩)
    (c : PySem.W.codeIn K cdv x = true) (k : PySem.W.keepIn K (.ref f) = true)
    (hb : ∀ (kV doc pm : Value) (an : Option Addr) (cdv ct : Value) (us : List Value), us.length = ps.length → bindArgs (PySem.W.fnOf x x (defArgs st) (defBody st) (defScope st) .none kV doc pm an cdv ct) ⟨us, []⟩ = pure (ps.zip us)) : DefAt K mg x st ps := by
  have F := fun_mk (st := st) l c k
  exact ⟨f, _, F, PySem.W.mg_of X G a, F.binds hb⟩
theorem law_mk {K : Fg} {h : Heap} {mg : Str → Option Value} (X : K.In h) (G : h.Ns mainGlobals mg) {x y : Str} {st : Stmt} {f fa : Addr} {oc : Value} {od an : Option Addr} {osl : Array (Option Value)} {kV doc pm cdv ct : Value} (hmg : mg x = some (.ref fa))
    (a : PySem.W.nsIn K mainGlobals x = some (some (.ref f))) (l : K.lookup f = some ⟨oc, od, .func (PySem.W.fnOf x x (defArgs st) (defBody st) (defScope st) .none kV doc pm an cdv ct), osl⟩)
    (c : PySem.W.codeIn K cdv x = true) (k : PySem.W.keepIn K (.ref f) = true)
    (hb : ∀ (kV doc pm : Value) (an : Option Addr) (cdv ct : Value) (s : Shared) (u : Value), BindsTo s (PySem.W.fnOf x x (defArgs st) (defBody st) (defScope st) .none kV doc pm an cdv ct) ⟨[u], []⟩ [(y, u)]) :
    ∃ fd : FuncData, Fun K x x st fa fd ∧ ∀ (s : Shared) (u : Value), BindsTo s fd ⟨[u], []⟩ [(y, u)] := by
  have e := hmg.symm.trans (PySem.W.mg_of X G a)
  cases e
  exact ⟨_, fun_mk (st := st) l c k, hb _ _ _ _ _ _⟩
theorem glob_none {K : Fg} {h : Heap} {mg : Str → Option Value} (X : K.In h) (G : h.Ns mainGlobals mg) {x : Str} (a : PySem.W.nsIn K mainGlobals x = some none) : mg x = none := PySem.W.mg_none_of X G a
theorem glob_int {K : Fg} {h : Heap} {mg : Str → Option Value} (X : K.In h) (G : h.Ns mainGlobals mg) {x : Str} {i : Int} {t : Tok} (a : PySem.W.nsIn K mainGlobals x = some (some (.int i t))) : ∃ t, mg x = some (.int i t) := ⟨t, PySem.W.mg_of X G a⟩
end DD

/-! several except clauses, each of which names the error -/
namespace DD
open PySem PySem.Spec PyProof.Rows L2
abbrev Clause := Value × Nat × (Addr → Value → Option Addr → TS)
/-- the ends of a clause's suite: its name is gone -/
def gone (i : Nat) (D : Ends) : Ends := ⟨fun z h => D.nx (z.set i none) h, D.rt, fun z h => D.bk (z.set i none) h, fun z h => D.ct (z.set i none) h⟩
def wEach (K : Fg) (D : Ends) : List Clause → WX
  | [] => fun _ _ _ _ => False
  | (c, i, ts) :: r => fun k d z h => ∃ y, PySem.W.exmOne K k c = some y ∧ (y = true → ∀ b, h b = none → i < z.length → ts b k d (gone i D) (z.set i (some (.ref b))) h) ∧ (y = false → wEach K D r k d z h)
inductive Clauses (X : Cx) : List ExceptHandler → List Clause → Prop
  | nil : Clauses X [] []
  | cons {x n : Str} {c : Value} {i : Nat} {ts : Addr → Value → Option Addr → TS} {u : Stmt} {us : List Stmt} {p1 p2 : Pos} {hs : List ExceptHandler} {l : List Clause} (nm : Names X x c) (at_ : X.N[i]? = some n) (kd : X.env.kindOf n = some .local)
      (su : ∀ (b : Addr) (ob : Obj) (k : Value) (d : Option Addr) (q : List (Addr × Obj)), Zc k d ob → (∃ vs, ob.data = .fields vs) → PSs (X.suite b ((b, ob) :: q)) (u :: us) (ts b k d)) (r : Clauses X hs l) :
      Clauses X (.ExceptHandler (some (.Name x p1)) (some n) (u :: us) p2 :: hs) ((c, i, ts) :: l)
variable {X : Cx} {body : List Stmt} {h₀ : ExceptHandler} {hds : List ExceptHandler} {l : List Clause} {pos : Pos} {tb : WX → TS}
theorem ps_try_each (st : X.stack = X.env :: X.outer) (fm : X.env.frame = some X.env.locals) (nd : X.N.Nodup)
    (bd : ∀ (W : WX) (q : List (Addr × Obj)) (xe : Value → Shared → Prop), Takes (X.tr q xe) W → PassesOwn (model X.prog X.w) X.A X.env xe → PSs (X.tr q xe) body (tb W))
    (cl : Clauses X (h₀ :: hds) l) : PS X (.Try body (h₀ :: hds) [] [] pos) (fun D z h => tb (wEach X.K D l) D z h) := by
  constructor
  intro pins s z h D J0 w0
  have okay := J0.ok
  have frms : X.A.frames = some (X.env :: X.outer) := by rw [okay.frames, st]
  refine wpAny_Try_except (wpAny_mono ((bd (wEach X.K D l) (X.pn ++ pins) (fun e sa => wpAny (model X.prog X.w) X.A (noteFrame e X.env)
    (fun _ sb => wpAny (model X.prog X.w) X.A (setFlight e none) (fun _ sc => wpAny (model X.prog X.w) X.A (handleBy e X.env (h₀ :: hds)) (SP X pins D) X.xe sc) X.xe sb) X.xe sa) (fun u sx hx => ?_) PassesOwn.looking).run [] s z h D (J0.toTry _) w0) (fun fl sz hz => ?_) (fun _ _ q => q))
  · obtain ⟨b, B, sI, pins', z', h', k, d, rfl, J1, nb, up, sky, na, os, ag, w⟩ := hx
    have J : Inv X pins z' h' sI := J1.ofTry okay
    rw [st] at sky
    change wpAny (model X.prog X.w) X.A (noteFrame (.ref b) X.env) _ _ _
    refine Sky.land Zc.steady frms fm sky fun g3 ld3 up3 => ?_
    have JL : Inv X pins z' h' { sx with heap := g3 } := J.landed nb ld3.1 (up.trans up3) os ag
    obtain ⟨ob3, fs3, ab3, zc3, da3⟩ := ld3.there
    have apart : b ∉ frs (X.env :: X.outer) := fun hm => by
      obtain ⟨_, o', e', nf⟩ := ld3.2.2.1.mem hm
      rw [ab3] at e'
      cases e'
      exact nf _ da3
    have notL : b ≠ X.env.locals := fun q => apart (List.mem_filterMap.mpr ⟨X.env, List.mem_cons_self, by rw [fm, q]⟩)
    have notF : b ∉ X.fs := fun hm => by
      obtain ⟨e, he, q⟩ := List.mem_filterMap.mp hm
      exact apart (List.mem_filterMap.mpr ⟨e, List.mem_cons_of_mem _ he, q⟩)
    have JS := JL.suite ab3 da3 na notL notF
    have tyK : PySem.W.Looks (model X.prog X.w) g3 (typeOf (.ref b)) k := fun A Q E s kp q => wpAny_typeOf_ref (kp _ _ ab3) (by rw [zc3.1]; exact q)
    have all : ∀ {hl : List ExceptHandler} {ll : List Clause}, Clauses X hl ll → wEach X.K D ll k d z' h' → wpAny (model X.prog X.w) X.A (handleBy (.ref b) X.env hl) (SP X pins D) X.xe { sx with heap := g3 } := by
      intro hl ll hc
      induction hc with
      | nil => exact fun q => q.elim
      | @cons x n c i ts u us p1 p2 hs l2 nm at_ kd su r ih =>
        rintro ⟨y, hy, yes, no⟩
        have mt := PySem.W.exm_one (M := model X.prog X.w) (JL.kIn) tyK hy
        have asked : ∀ {Q E : Value → Shared → Prop}, Q c { sx with heap := g3 } → wpAny (model X.prog X.w) (X.A.mark (some (.ref b))) (eval (.Name x p1) X.env) Q E { sx with heap := g3 } := fun {Q E} q => by
          rcases nm with ⟨gl, db, hm | ⟨hm, bv, nn⟩⟩
          · exact ld_glob (X := X.suite b ((b, ob3) :: (X.pn ++ pins))) JS gl hm q db
          · exact ld_blt (X := X.suite b ((b, ob3) :: (X.pn ++ pins))) JS gl hm bv q nn db
        refine wpAny_handleBy_cons (codeAny_handlers_test (asked (mt.here ?_))) (by rintro ⟨⟩)
        cases y with
        | false =>
          change wpAny _ X.A (handleBy (.ref b) X.env hs) _ _ _
          exact ih (no rfl)
        | true =>
          refine codeAny_handlers_suite_as (HandSPX.lands_againZ ld3 fun g4 ld4 up4 => ?_)
          have J4 : Inv X pins z' h' { sx with heap := g4 } := J.landed nb ld4.1 ((up.trans up3).trans up4) os ag
          obtain ⟨ob4, fs4, ab4, zc4, da4⟩ := ld4.there
          have JS4 := J4.suite ab4 da4 na notL notF
          refine store_ok (X := X.suite b ((b, ob4) :: (X.pn ++ pins))) (v := .ref b) JS4 nd at_ (.inl kd) rfl (fun s5 J5 => ?_) (.inr kd)
          refine wpAny_mono ((su b ob4 k d (X.pn ++ pins) zc4 ⟨_, da4⟩).run [] s5 _ h' (gone i D) J5 (yes rfl b na (by rw [J4.len]; exact (List.getElem?_eq_some_iff.mp at_).1))) (fun fl s6 q6 => ?_) (fun _ _ q => q.elim)
          have off : ∀ {z6 : L2.St} {h6 : Hp} {Q : Shared → Prop}, Inv (X.suite b ((b, ob4) :: (X.pn ++ pins))) [] z6 h6 s6 → (∀ s7, Inv X pins (z6.set i none) h6 s7 → Q s7) →
              wpAny (model X.prog X.w) X.A (do bindName X.env n .none; unbindBehindTheSuite X.env n p2) (fun _ s7 => Q s7) X.xe s6 := fun K6 hq => gone_ok (K6.unsuite okay) nd at_ kd hq
          cases fl with
          | ret v =>
            obtain ⟨v6, z6, h6, K6, rv, w6⟩ := q6
            exact off K6 fun s7 K7 => ⟨_, _, _, K7, rv, w6⟩
          | next =>
            obtain ⟨z6, h6, K6, w6⟩ := q6
            exact off K6 fun s7 K7 => ⟨_, _, K7, w6⟩
          | brk =>
            obtain ⟨z6, h6, K6, w6⟩ := q6
            exact off K6 fun s7 K7 => ⟨_, _, K7, w6⟩
          | cont =>
            obtain ⟨z6, h6, K6, w6⟩ := q6
            exact off K6 fun s7 K7 => ⟨_, _, K7, w6⟩
    exact all cl w
  · cases fl with
    | ret v =>
      obtain ⟨v1, z1, h1, K1, rv, w1⟩ := hz
      exact ⟨v1, z1, h1, K1.ofTry okay, rv, w1⟩
    | next =>
      obtain ⟨z1, h1, K1, w1⟩ := hz
      exact wpAny_execs_nil ⟨z1, h1, K1.ofTry okay, w1⟩
    | brk =>
      obtain ⟨z1, h1, K1, w1⟩ := hz
      exact ⟨z1, h1, K1.ofTry okay, w1⟩
    | cont =>
      obtain ⟨z1, h1, K1, w1⟩ := hz
      exact ⟨z1, h1, K1.ofTry okay, w1⟩
end DD

/-! Own errors: made, raised; defs that may raise. -/
namespace DD
open PySem L2
open PyProof.Rows (envOfC)
/-- __init__(self, value) of an own error -/
def spInit (K : Fg) : Sp := fun vs H Q _ => ∃ (a C : Addr) (x : V), vs = [.ref a, x] ∧ OexC K C ∧ PySem.W.findIn K (.ref C) "value" = some none ∧ H a = some (exo a C none) ∧
  ∀ dx, H dx = none → dx ≠ a → Q .non (upd (upd H dx (exd dx [(("value" : Str), x)])) a (exo a C (some dx)))
section
variable {P : Program} {w : World} {K : Fg} {mg : Str → Option Value} {base : Heap}
/-- an own error's class, at C -/
structure ErrC (P : Program) (w : World) (K : Fg) (mg : Str → Option Value) (base : Heap) (x : Str) (C : Addr) : Prop where
  g : mg x = some (.ref C)
  T : OexC K C
  nv : PySem.W.findIn K (.ref C) "value" = some none
  ini : ∃ (fI : Addr) (fd : FuncData), PySem.W.findIn K (.ref C) "__init__" = some (some (.ref fI)) ∧ PySem.W.typeIn K (.ref fI) = some (.type "function") ∧ FnOk P w K mg base CX0 1 fI fd ["self", "value"] (spInit K) ∧ Binds K fd ["self", "value"] []
end
/-- a def that may raise, by its name -/
structure CalE (P : Program) (w : World) (K : Fg) (mg : Str → Option Value) (base : Heap) (k : Nat) (x : Str) (sp : Sp) : Prop where
  ex : ∃ (a : Addr) (fd : FuncData) (ps : List Str), FnG P w K mg base (L2.CX P w) k a fd ps sp ∧ mg x = some (.ref a) ∧ PySem.W.keepIn K (.ref a) = true ∧ Binds K fd ps []
theorem DefAt.calE {P : Program} {w : World} {K : Fg} {mg : Str → Option Value} {base : Heap} {k : Nat} {x : Str} {st : Stmt} {ps : List Str} {sp : Sp} (D : DefAt K mg x st ps) (h : ∀ a fd, Fun K x x st a fd → FnG P w K mg base (L2.CX P w) k a fd ps sp) : CalE P w K mg base k x sp := by
  obtain ⟨a, fd, F, g, b⟩ := D.ex
  exact ⟨a, fd, ps, h a fd F, g, F.kp, b⟩
abbrev CXx (P : Program) (w : World) (K : Fg) (mg : Str → Option Value) (base : Heap) (N : List Str) (qual : Str) (st : Stmt) (f : Addr) (cdv : Value) (A : Around) (outer : List Env) (s : Shared) (H : Hp) (E : XK) : Cx := cxOf (L2.CX P w) P w K mg base N qual (defScope st) f cdv A outer s H E
section
variable {P : Program} {w : World} {K : Fg} {mg : Str → Option Value} {base : Heap} {N ps : List Str} {qual x : Str} {st : Stmt} {f : Addr} {fd : FuncData} {cdv : Value} {A : Around} {outer : List Env} {s : Shared} {H : Hp} {E : XK} {k n : Nat} {fn : PF}
theorem takesX : Takes (CXx P w K mg base N qual st f cdv A outer s H E) (fun cls d _ H' => E cls d H') := takes_of rfl rfl rfl rfl
theorem ownX : PassesOwn (model P w) (CXx P w K mg base N qual st f cdv A outer s H E).A (CXx P w K mg base N qual st f cdv A outer s H E).env (CXx P w K mg base N qual st f cdv A outer s H E).xe := passes_of rfl
theorem passX : Passes (L2.CX P w) (CXx P w K mg base N qual st f cdv A outer s H E) E := passes_call takesX (fun _ _ _ _ h => h)
/-- a def of data that may raise -/
theorem fun_dE (F : Fun K x qual st f fd) (S : FnScope N ps (defScope st)) (hn : ps.length = n)
    (dt : DS) (h : ∀ (cdv : Value) (A : Around) (outer : List Env) (s : Shared) (H : Hp) (E : XK), Room k (A.deeper (envOfC qual (defScope st) s.heap.objs.size f cdv)) → A.guards = some [] → DBx (CXx P w K mg base N qual st f cdv A outer s H E) E (defBody st) dt)
    (hd : ∀ ds R Er, ds.length = n → fn ds R Er → dt { nx := fun _ => R .none, rt := fun d _ => R d } (startD N.length ds) Er) : FnG P w K mg base (L2.CX P w) (k + 1) f fd ps (spD K n fn) :=
  fun_d F S hn fun cdv A outer s H E hr hgd => ⟨dt, h cdv A outer s H E hr hgd, hd⟩
theorem fun_sE (F : Fun K x qual st f fd) (S : FnScope N ps (defScope st)) (hn : ps.length = n) (hN : 0 < N.length)
    (dt : DS) (h : ∀ (cdv : Value) (A : Around) (outer : List Env) (s : Shared) (H : Hp) (E : XK), Room k (A.deeper (envOfC qual (defScope st) s.heap.objs.size f cdv)) → A.guards = some [] → DBx (CXx P w K mg base N qual st f cdv A outer s H E) E (defBody st) dt)
    (hd : ∀ ds R Er, ds.length + 1 = n → fn ds R Er → dt { nx := fun _ => R .none, rt := fun d _ => R d } (startS N.length ds) Er) : FnG P w K mg base (L2.CX P w) (k + 1) f fd ps (spS K n fn) :=
  fun_s F S hn hN fun cdv A outer s H E hr hgd => ⟨dt, h cdv A outer s H E hr hgd, hd⟩
end
section
variable {X : Cx} {EX : XK} {j k n : Nat} {x : Str} {p pos pos' : Pos} {e : Expr} {es : List Expr} {da : DA} {fn : PF}
theorem de_callE (c : CalE X.prog X.w X.K X.mg X.base k x (spD X.K n fn)) (px : Passes (L2.CX X.prog X.w) X EX) (hr : Room j X.A) (hk : k ≤ j) (hgd : X.A.guards = some []) (ha : DAx X EX (e :: es) da) (hn : (e :: es).length = n := by rfl) (hg : Gl X x := by rfl) (hdb : (x == ("__debug__" : Str)) = false := by decide)
    (he : starEach (e :: es) X.env = (false, eval e X.env) :: starEach es X.env := by rfl) (hpl : (backTo pos (starEach es X.env)).any (·.1) = false := by rfl) :
    DEx X EX (.Call (.Name x p) (e :: es) [] pos) (dFn (fun ds R Er => ds.length = n ∧ fn ds R Er) da) := by
  obtain ⟨f, fd, ps, F, g, kp, b⟩ := c.ex
  exact de_fn F (hr.mono hk) hgd hg g kp b px hn ha hdb he hpl
/-- raise C(e) -/
def sRaise (C : Addr) (a : DE) : DS := fun _ ρ Er => a ρ (fun d _ => Er.w C d) Er
theorem ds_raise {C : Addr} {da : DE} (c : ErrC X.prog X.w X.K X.mg X.base x C) (hc : X.calm = true) (tk : Takes X (fun cls d _ H => EX cls d H)) (hr : Room 2 X.A) (ha : DEx X EX e da) (hg : Gl X x := by rfl) (hdb : (x == ("__debug__" : Str)) = false := by decide)
    (he : starEach [e] X.env = (false, eval e X.env) :: starEach [] X.env := by rfl) (hpl : (backTo pos (starEach [] X.env)).any (·.1) = false := by rfl) :
    DSx X EX (.Raise (some (.Call (.Name x p) [e] [] pos)) none pos') (sRaise C da) := by
  obtain ⟨t, pa, q⟩ := ha.ex
  obtain ⟨fI, fd, iC, tI, F, b⟩ := c.ini
  refine ⟨_, ps_raise hc tk (pmk_oex c.T iC tI F hr b .nil passE hg c.g (pa_cons pa pa_nil he) hdb he hpl), fun s H0 W0 W σ ρ H D Er E S eo hd kk => ?_⟩
  refine q s H0 W0 W σ ρ H _ Er _ S eo hd fun v d W1 ρ1 H1 hd1 s1 e1 S1 w1 => ⟨by show 1 ≤ 1000; decide, fun a ha => ⟨a, C, v, rfl, c.T, c.nv, upd_same, fun dx hx hne => ?_⟩⟩
  have hx1 : H1 dx = none := by rw [upd_ne hne] at hx; exact hx
  refine ⟨rfl, dx, _, upd_same, by rw [upd_ne hne, upd_same], hx1, ?_⟩
  have sm : Same H1 (upd (L2.del (upd (upd (upd H1 a (exo a C none)) dx (exd dx [(("value" : Str), v)])) a (exo a C (some dx))) a) dx (.xd [(("value" : Str), v)])) := fun b o h => by
    have n1 := ne_of_none h hx1
    have n2 := ne_of_none h ha
    rw [upd_ne n1, del_ne n2, upd_ne n2, upd_ne n1, upd_ne n2]
    exact h
  exact eo.wish C d dx v _ hd1 (fun b o h n => sm b o (S1.frame b o h n)) (fun b hb => (S1.src b hb).2.2.stay fun o h => sm b o h) (S1.tab.1.ext sm) (S1.fresh0 hx1) upd_same (w1.to (Ext.same sm) S1.sub)
end
end DD

/-! A lambda handed to a def: nothing changes but the maker's own table of code objects. -/
namespace DD
open PySem PySem.Spec PyProof.Rows L2 LamX
/-- all but the object at P stays -/
def But (P : Addr) (H H' : Hp) : Prop := ∀ b o, b ≠ P → H b = some o → H' b = some o
section
variable {X : Cx} {pins : List (Addr × Obj)} {z : L2.St} {H : Hp} {s : Shared}
theorem lam_made {T : List (Addr × Str)} {c P : Addr} {params : Arguments} {body : Expr} {scope : Scope} {pos : Pos} {E Q : Value → Shared → Prop} (J : Inv X pins z H s) (B : TabB X.base X.mg c P) (cd : X.env.code = .ref c)
    (mT : (P, X.env.qual ++ "<lambda>") ∈ T) (one : ∀ p ∈ T, p.1 = P → p.2 = X.env.qual ++ "<lambda>") (tt : Tabs T H) (nodef : defaultsOf params X.env = ([], [])) (caught : ∀ y ∈ scope.names, y.2 = .free → ∃ c, X.env.cells.lookup y.1 = some c)
    (go : ∀ (f d : Addr) (pm cv : Value) (H1 : Hp) (s1 : Shared), Inv X pins z H1 s1 → But P H H1 → Tabs T H1 →
      s1.heap.get? f = some (PySem.W.kla_obj "<lambda>" (X.env.qual ++ "<lambda>") params body scope (cloFrom X.env.cells scope.names []) pm d cv) → H1 f = none → f ∉ frs X.stack → H1 d = some (CodeO d (X.env.qual ++ "<lambda>")) → Q (.ref f) s1) :
    wpAny (model X.prog X.w) X.A (eval (.Lambda params body scope pos) X.env) Q E s := by
  obtain ⟨ps, atP, tri, known⟩ := tt _ mT
  have BA : s.heap.BuiltinsAt X.mg P := B.bm.keeps J.bk
  have realP := J.hok P _ atP
  have cold : ∀ f, s.heap.objs.size ≤ f → f ∉ frs X.stack := fun f le hm => by
    rcases List.mem_cons.mp (J.stkSub _ hm) with e | e
    · exact absurd (Nat.lt_of_lt_of_le J.lt le) (by rw [e]; exact Nat.lt_irrefl _)
    · exact J.nofs le e
  refine PySem.W.kla_eval nodef ?_
  cases look : codeAmong pos ps.toList with
  | some cv =>
    obtain ⟨d, rfl, dk⟩ := known pos cv look
    refine PySem.W.kla_makeFunctionHit (mg := X.mg) (c := c) (P := P) (ps := ps) (closure_ok caught) J.ok.glob (J.mod.glob.keeps J.bk) cd (B.code.keeps J.bk) realP tri look BA fun ctv g tk kp le => ?_
    exact go g.objs.size d ((X.mg "__name__").getD .none) ctv H _ (J.kept fun b o e => Heap.get?_push_of_some _ (kp b o e)) (fun _ _ _ e => e) tt (Heap.get?_push_size _ rfl) (J.hok.fresh le) (cold _ le) dk
  | none =>
    refine PySem.W.kla_makeFunction (mg := X.mg) (c := c) (P := P) (ps := ps) (closure_ok caught) J.ok.glob (J.mod.glob.keeps J.bk) cd (B.code.keeps J.bk) realP tri look B.gP BA fun d ctv g tk kp ge lt rec_ tb => ?_
    obtain ⟨d', oc, vs, t, same, od, dd, dv⟩ := rec_
    cases same
    have big' : s.heap.objs.size ≤ g.objs.size := Nat.le_trans ge (Nat.le_of_lt lt)
    have freeD : H d = none := J.hok.fresh ge
    have J1 := inv_table (t' := tk) (more := #[rawInt pos.line, rawInt pos.col, .ref d]) (h' := g.push (PySem.W.kla_obj "<lambda>" (X.env.qual ++ "<lambda>") params body scope (cloFrom X.env.cells scope.names []) ((X.mg "__name__").getD .none) d ctv)) J atP
      (fun b o hb e => Heap.get?_push_of_some _ (kp b o hb e)) (Heap.get?_push_of_some _ tb) ge ⟨oc, vs, t, Heap.get?_push_of_some _ od, dd, dv⟩
    have but : But P H (upd (upd H P (.tbl (ps ++ #[rawInt pos.line, rawInt pos.col, .ref d]))) d (CodeO d (X.env.qual ++ "<lambda>"))) := fun b o n e => by
      rw [upd_ne (ne_of_none e freeD), upd_ne n]
      exact e
    have lst : (ps ++ #[rawInt pos.line, rawInt pos.col, .ref d]).toList = ps.toList ++ [rawInt pos.line, rawInt pos.col, .ref d] := by simp
    have keepC : ∀ {k : Addr} {q : Str}, H k = some (CodeO k q) → upd (upd H P (.tbl (ps ++ #[rawInt pos.line, rawInt pos.col, .ref d]))) d (CodeO d (X.env.qual ++ "<lambda>")) k = some (CodeO k q) := fun {k q} e =>
      but k _ (fun h => by rw [h, atP] at e; exact codeO_ne ps (Option.some.inj e).symm) e
    refine go g.objs.size d ((X.mg "__name__").getD .none) ctv _ _ J1 but (fun p hp => ?_) (Heap.get?_push_size _ rfl) ?_ (cold _ big') upd_same
    · by_cases e : p.1 = P
      · rw [one p hp e, e]
        refine ⟨_, by rw [upd_ne (ne_of_none atP freeD), upd_same], by rw [lst]; exact PySem.TriplesOk_snoc _ _ _ _ tri, fun p2 v hv => ?_⟩
        rw [lst] at hv
        rcases among_app _ tri hv with h | h
        · obtain ⟨k, h1, h2⟩ := known p2 v h
          exact ⟨k, h1, keepC h2⟩
        · exact ⟨d, h, upd_same⟩
      · obtain ⟨qs, h1, h2, h3⟩ := tt p hp
        refine ⟨qs, but _ _ e h1, h2, fun p2 v hv => ?_⟩
        obtain ⟨k, g1, g2⟩ := h3 p2 v hv
        exact ⟨k, g1, keepC g2⟩
    · have n1 : g.objs.size ≠ d := Nat.ne_of_gt lt
      have n2 : g.objs.size ≠ P := Nat.ne_of_gt (Nat.lt_of_lt_of_le (Heap.lt_size realP) big')
      rw [upd_ne n1, upd_ne n2]
      exact J.hok.fresh big'
end
section
variable {X : Cx}
def tLamB (P : Addr) (T : List (Addr × Str)) (TT : (XK → Hp → VK → Prop) → Hp → VK → Prop) (t : XK → TE) : TE := fun z H Q => Tabs T H ∧ ∀ H1, But P H H1 → Tabs T H1 → TT (fun E H' Q' => t E z H' Q') H1 Q
/-- a(), in the def that got the lambda -/
theorem act_of {z : L2.St} {H : Hp} {s : Shared} {pins : List (Addr × Obj)} {CXg : CXT} {Eg : XK} {Ng : List Str} {qg : Str} {sg : Scope} {g f d : Addr} {cdg pm cv : Value} {params : Arguments} {body : Expr} {scope : Scope} {k i : Nat} {a : Str} {pn : List (Addr × Obj)} {xe : Value → Shared → Prop} {W : WX} {E : XK} {tb : TE} {p1 p2 : Pos}
    (J : Inv X pins z H s) (L : LamS X.env.scope scope) (of : s.heap.get? f = some (PySem.W.kla_obj "<lambda>" (X.env.qual ++ "<lambda>") params body scope (cloFrom X.env.cells scope.names []) pm d cv)) (hfn : H f = none) (nfr : f ∉ frs X.stack)
    (bnd : bindArgs (PySem.W.kla_fn "<lambda>" (X.env.qual ++ "<lambda>") params body scope (cloFrom X.env.cells scope.names []) pm (.ref d) cv) ⟨[], []⟩ = pure [])
    (tk : Takes ((cxOf CXg X.prog X.w X.K X.mg X.base Ng qg sg g cdg X.A X.stack s H Eg).tr pn xe) W) (hW : ∀ cls d σ' H', E cls d H' → W cls d σ' H') (hr : Room (k + 1) (X.A.deeper (envOfC qg sg s.heap.objs.size g cdg)))
    (bd : ∀ (A : Around) (outer : List Env) (s : Shared) (H : Hp), Room k (A.deeper (lamEnv X scope s.heap.objs.size f d)) → A.guards = X.A.guards → PE (lamCx X A outer s H E scope f d) body tb)
    (hN : Ng[i]? = some a) (hv : Vis sg a) (d2 : (a == ("__debug__" : Str)) = false := by decide) (d3 : (a == ("__classdict__" : Str)) = false := by decide) :
    PE ((cxOf CXg X.prog X.w X.K X.mg X.base Ng qg sg g cdg X.A X.stack s H Eg).tr pn xe) (.Call (.Name a p1) [] [] p2)
      (fun y G Q => y[i]? = some (some (.ref f)) ∧ G d = some (CodeO d (X.env.qual ++ "<lambda>")) ∧ tb z G Q) := by
  constructor
  rintro qs sZ y G Q JZ ⟨atI, co, w⟩
  refine wpAny_Call_Name_kw (thn ((pe_var (pos := p1) (i := i) hN hv d2 d3).run qs sZ y G (fun v G1 => v = .ref f ∧ G1 = G) JZ ⟨.ref f, atI, rfl, rfl⟩) ?_)
  rintro u s1 ⟨v, G1, K1, rv, rfl, rfl⟩
  cases rv
  have there : s1.heap.get? f = some (PySem.W.kla_obj "<lambda>" (X.env.qual ++ "<lambda>") params body scope (cloFrom X.env.cells scope.names []) pm d cv) := K1.base.keep f _ of hfn nfr (fun q => nomatch (show f ∈ ([] : List Addr) from q))
  obtain ⟨⟨oc, vs, t, o1, o2, o3⟩, _, _⟩ := K1.hok d _ co
  have ran : codeAny (model X.prog X.w) (X.A.deeper (envOfC qg sg s.heap.objs.size g cdg)) (.call (.ref f) ⟨[], []⟩) (CR (L2.CX X.prog X.w) (envOfC qg sg s.heap.objs.size g cdg :: X.stack) X.prog X.w G1 s1 Q E) s1 := by
    refine PySem.W.kla_callFunE hr.depth there rfl L.co L.gen rfl ⟨d, oc, vs, t, rfl, o1, o2, o3⟩ ?_
    rw [bnd]
    refine wpAny_pure (wpAny_newFunctionEnv (fun y hy => (L.own y hy).2) (fun y hy => absurd hy (by simp)) (fun h1 ns sb => ⟨K1.nolimit.fresh _ sb, ?_⟩) L.kind)
    change codeAny _ _ (.expr body (lamEnv X scope s1.heap.objs.size f d)) _ _
    have K2 : Inv (lamCx X (X.A.deeper (envOfC qg sg s.heap.objs.size g cdg)) (envOfC qg sg s.heap.objs.size g cdg :: X.stack) s1 G1 E scope f d) [] z G1 { s1 with heap := h1, toks := s1.toks + ([] : List (Str × Value)).length } :=
      lam_start2 J L K1.env0 hr.hd K1.base ns fun b o e => sb.extBut b o (Nat.ne_of_lt (Heap.lt_size e)) (Heap.get?_push_of_some _ e)
    refine PySem.W.kla_codeExpr (wpAny_mono ((bd _ _ s1 G1 (hr.deeper _) rfl).run [] _ _ G1 Q K2 w) (fun v s' q => ?_) fun e s' q => q)
    obtain ⟨y', G', K', rv, wv⟩ := q
    exact ⟨y', G', K'.os, K'.bare, K'.base, K'.hok, rv, wv⟩
  refine PySem.W.callWith_F0 ⟨_, _, _, _, there⟩ (wpAny_call (codeAny_mono ran fun r s' q => ?_))
  rcases r with er | fl
  · exact passes_call tk hW qs y G1 s1 er s' K1 q
  · cases fl with
    | ret u => exact K1.after q
    | next => exact False.elim q
    | brk => exact False.elim q
    | cont => exact False.elim q
theorem pe_lamB {T : List (Addr × Str)} {TT : (XK → Hp → VK → Prop) → Hp → VK → Prop} {x a : Str} {g c P : Addr} {k : Nat} {pg : Arguments} {bg : List Stmt} {sg : Scope} {dV kV doc pm cdv ct oc : Value} {an od : Option Addr} {osl : Array (Option Value)} {Ng : List Str}
    {params : Arguments} {body : Expr} {scope : Scope} {t : XK → TE} {p lpos pos : Pos} (gl : Gl X x) (mm : X.mg x = some (.ref g)) (kp : PySem.W.keepIn X.K (.ref g) = true)
    (lk : X.K.lookup g = some ⟨oc, od, .func (PySem.W.fnOf x x pg bg sg dV kV doc pm an cdv ct), osl⟩) (cg : PySem.W.codeIn X.K cdv x = true) (bi : L2.Binds X.K (PySem.W.fnOf x x pg bg sg dV kV doc pm an cdv ct) [a] []) (Sg : FnScope Ng [a] sg) (n0 : Ng[0]? = some a) (va : Vis sg a)
    (G : GivesTo X Ng x sg g cdv bg a (X.env.qual ++ "<lambda>") TT)
    (B : TabB X.base X.mg c P) (cd : X.env.code = .ref c) (mT : (P, X.env.qual ++ "<lambda>") ∈ T) (one : ∀ p ∈ T, p.1 = P → p.2 = X.env.qual ++ "<lambda>") (hr : Room (k + 2) X.A) (L : LamS X.env.scope scope) (nodef : defaultsOf params X.env = ([], []))
    (bnd : ∀ (q : Str) (cl : List (Str × Addr)) (pm cv ctv : Value), bindArgs (PySem.W.kla_fn "<lambda>" q params body scope cl pm cv ctv) ⟨[], []⟩ = pure [])
    (bd : ∀ (A : Around) (outer : List Env) (s : Shared) (H : Hp) (E : XK) (f d : Addr), Room k (A.deeper (lamEnv X scope s.heap.objs.size f d)) → A.guards = X.A.guards → PE (lamCx X A outer s H E scope f d) body (t E))
    (d1 : (x == ("__debug__" : Str)) = false := by decide) (d2 : (a == ("__debug__" : Str)) = false := by decide) (d3 : (a == ("__classdict__" : Str)) = false := by decide) :
    PE X (.Call (.Name x p) [.Lambda params body scope lpos] [] pos) (tLamB P T TT t) := by
  constructor
  rintro pins s z H Q J ⟨tt, w⟩
  refine wpAny_Call_Name_kw (ld_glob J gl mm (PySem.W.callWith_K (h₀ := X.base) J.ok.mod.kin kp ?_ (by rfl) (by rfl)) d1)
  change wpAny _ _ (spliced ((false, eval (.Lambda params body scope lpos) X.env) :: backTo pos (starEach [] X.env))) _ _ s
  refine Calls.spliced_cons (lam_made J B cd mT one tt nodef (L.has J.ok) fun f d pm' cv H1 s1 J1 bt T1 of hfn nfr co => Calls.spliced_nil ⟨J1.kIn, ?_⟩)
  have ran : codeAny (model X.prog X.w) X.A (.call (.ref g) ⟨[.ref f], []⟩) (CR C8.CX0 X.stack X.prog X.w H1 s1 Q C8.E0) s1 := by
    refine run_ofS (N := Ng) (ps := [a]) (us := [.ref f]) (vs := [.ref f]) lk cg Sg hr J1.env0 (bi s1 [.ref f] J1.kIn rfl) (.cons rfl .nil) rfl fun room => ?_
    obtain ⟨tr, ok, rd⟩ := G f d s1 H1 Q (fun E H' Q' => t E z H' Q') (fun W pn xe E p1 p2 tk hW => act_of (i := 0) J1 L of hfn nfr (bnd _ _ _ _ _) tk hW room (fun A outer s H rm gd => bd A outer s H E f d rm gd) n0 va d2 d3) co (w H1 bt T1)
    exact ⟨tr, ok.nox, rd⟩
  refine wpAny_call (codeAny_mono ran fun r s2 q => ?_)
  rcases r with er | fl
  · exact (show False from q).elim
  · cases fl with
    | ret u => exact J1.after q
    | next => exact False.elim q
    | brk => exact False.elim q
    | cont => exact False.elim q
end
end DD

/-! try: return [told, a()] / except C as n: return [word, n.value] / .. -/
namespace DD
open PySem L2 LamX
open PyProof.Rows (envOfC)
/-- what a clause makes of an error of the class at C -/
def cWish (K : Fg) (Q : VK) : List (Addr × Str) → XK
  | [] => fun _ _ _ => False
  | (C, w) :: r => fun cls d H => ∃ y, PySem.W.exmOne K cls (.ref C) = some y ∧ (y = true → cls = .ref C ∧ ∃ (dd : Addr) (v : V), d = some dd ∧ H dd = some (.xd [(("value" : Str), v)]) ∧ ∀ p, H p = none → Q (.ref p) (upd H p (.lst [.str w, v]))) ∧ (y = false → cWish K Q r cls d H)
/-- what the def makes of the lambda's reading -/
def TTc (K : Fg) (told : Str) (cs : List (Addr × Str)) : (XK → Hp → VK → Prop) → Hp → VK → Prop := fun tl H Q =>
  tl (cWish K Q cs) H (fun v H1 => [V.str told, v].length ≤ sizeLine ∧ ∀ p, H1 p = none → Q (.ref p) (upd H1 p (.lst [.str told, v])))
/-- a clause's suite as it is read -/
def tsC (C : Addr) (w : Str) : Addr → Value → Option Addr → TS := fun b k d D σ H => k = .ref C ∧ σ[1]? = some (some (.ref b)) ∧ ∃ (dd : Addr) (v : V), d = some dd ∧ H dd = some (.xd [(("value" : Str), v)]) ∧ ∀ p, H p = none → D.rt (.ref p) (upd H p (.lst [.str w, v]))
def clsOf : List (Addr × Str) → List Clause
  | [] => []
  | (C, w) :: r => (.ref C, 1, tsC C w) :: clsOf r
theorem clause_mk {X : Cx} {C : Addr} {x n w : Str} {j : Nat} {p1 p2 p3 p4 p5 p6 p7 : Pos} {hs : List ExceptHandler} {l : List (Addr × Str)} (T : XfC X.K C) (nv : PySem.W.findIn X.K (.ref C) "value" = some none) (nm : Names X x (.ref C)) (at_ : X.N[1]? = some n) (kd : X.env.kindOf n = some .local)
    (hv : Vis X.env.scope n) (d1 : (n == ("__debug__" : Str)) = false) (d2 : (n == ("__classdict__" : Str)) = false) (r : Clauses X hs (clsOf l))
    (hse : ∀ Y : Cx, starEach [.Constant (.str w) j p2, .Attribute (.Name n p3) "value" p4] Y.env = (false, eval (.Constant (.str w) j p2) Y.env) :: starEach [.Attribute (.Name n p3) "value" p4] Y.env := by intro _; rfl)
    (hse2 : ∀ Y : Cx, starEach [.Attribute (.Name n p3) "value" p4] Y.env = (false, eval (.Attribute (.Name n p3) "value" p4) Y.env) :: starEach [] Y.env := by intro _; rfl) :
    Clauses X (.ExceptHandler (some (.Name x p1)) (some n) [.Return (some (.List [.Constant (.str w) j p2, .Attribute (.Name n p3) "value" p4] p5)) p6] p7 :: hs) (clsOf ((C, w) :: l)) := by
  refine .cons nm at_ kd (fun b ob k d q hz hf => ?_) r
  have pn : PE (X.suite b ((b, ob) :: q)) (.Name n p3) (tVar 1) := pe_var (X := X.suite b ((b, ob) :: q)) (i := 1) at_ hv d1 d2
  have px := pe_xf (pos := p4) (n := "value") T nv hz hf pn
  have pl := pss_one (ps_ret (pos := p6) (pe_lst (pos := p5) (pa_cons (pe_str (X := X.suite b ((b, ob) :: q)) (pos := p2) (j := j) (x := w)) (pa_cons px pa_nil (hse2 _)) (hse _))))
  refine ⟨fun pins s σ H D I h => pl.run pins s σ H D I ?_⟩
  obtain ⟨hk, hs1, dd, v, hd, hx, go⟩ := h
  refine ⟨.ref b, hs1, rfl, hk, dd, _, v, hd, hx, by simp [List.lookup], (show 2 ≤ sizeLine by rw [sizeLine_eq]; decide), fun p hp => go p hp⟩
theorem each_wish {K : Fg} {Q : VK} {D : Ends} (hD : D.rt = Q) : ∀ (l : List (Addr × Str)) {cls : Value} {d : Option Addr} {σ : L2.St} {H : Hp}, cWish K Q l cls d H → wEach K D (clsOf l) cls d σ H
  | [], _, _, _, _, h => h
  | (C, w) :: r, cls, d, σ, H, ⟨y, h1, h2, h3⟩ => ⟨y, h1, fun hy b hb hl => by
      obtain ⟨e, dd, v, e1, e2, go⟩ := h2 hy
      exact ⟨e, List.getElem?_set_self hl, dd, v, e1, e2, fun p hp => by show D.rt _ _; rw [hD]; exact go p hp⟩, fun hy => each_wish hD r (h3 hy)⟩
section
variable {X : Cx}
theorem caught_gives {Ng : List Str} {x a q told : Str} {sg : Scope} {g : Addr} {cdg : Value} {j : Nat} {p1 p2 p3 p4 p5 p6 : Pos} {h₀ : ExceptHandler} {hds : List ExceptHandler} {cs : List (Addr × Str)} (nd : Ng.Nodup) (h0 : ∀ f : Addr, (L2.start Ng [V.ref f])[0]? = some (some (V.ref f)))
    (cl : ∀ (s : Shared) (H : Hp), Clauses (cxOf C8.CX0 X.prog X.w X.K X.mg X.base Ng x sg g cdg X.A X.stack s H C8.E0).nox (h₀ :: hds) (clsOf cs))
    (e1 : ∀ Y : Cx, starEach [.Constant (.str told) j p3, .Call (.Name a p1) [] [] p2] Y.env = (false, eval (.Constant (.str told) j p3) Y.env) :: starEach [.Call (.Name a p1) [] [] p2] Y.env := by intro _; rfl)
    (e2 : ∀ Y : Cx, starEach [.Call (.Name a p1) [] [] p2] Y.env = (false, eval (.Call (.Name a p1) [] [] p2) Y.env) :: starEach [] Y.env := by intro _; rfl) :
    GivesTo X Ng x sg g cdg [.Try [.Return (some (.List [.Constant (.str told) j p3, .Call (.Name a p1) [] [] p2] p4)) p5] (h₀ :: hds) [] [] p6] a q (TTc X.K told cs) := by
  intro f c' s H Q tl act hc h
  refine ⟨_, pss_one (ps_try_each (X := (cxOf C8.CX0 X.prog X.w X.K X.mg X.base Ng x sg g cdg X.A X.stack s H C8.E0).nox) (l := clsOf cs)
    (tb := fun W D σ H => ∃ Ech : XK, (∀ cls d σ' H', Ech cls d H' → W cls d σ' H') ∧ σ[0]? = some (some (.ref f)) ∧ H c' = some (CodeO c' q) ∧ tl Ech H (fun v H1 => [V.str told, v].length ≤ sizeLine ∧ ∀ p, H1 p = none → D.rt (.ref p) (upd H1 p (.lst [.str told, v]))))
    rfl rfl nd (fun W pn xe tk _ => ?_) (cl s H)), ?_⟩
  · refine ⟨fun pins s' σ H' D I h' => ?_⟩
    obtain ⟨Ech, hW, h1, h2, h3⟩ := h'
    have hp := act W pn xe Ech p1 p2 tk hW
    have pl := pss_one (ps_ret (pos := p5) (pe_lst (pos := p4) (pa_cons (pe_str (pos := p3) (j := j) (x := told)) (pa_cons hp pa_nil (e2 _)) (e1 _))))
    exact pl.run pins s' σ H' D I ⟨h1, h2, h3⟩
  · exact ⟨cWish X.K Q cs, fun cls d σ' H' w => each_wish rfl cs w, h0 f, hc, h⟩
end
end DD

/-! x(lambda: body), over data -/
namespace DD
open PySem L2 LamX
open PyProof.Rows (envOfC)
/-- own lists out of sight -/
def hide (ρ : Env') : Env' := ρ.map fun d => match d with
  | some (.own _) => none
  | some (.obj _) => none
  | d => d
theorem hide_get {ρ : Env'} {i : Nat} {d : D} (h : (hide ρ)[i]? = some (some d)) : ρ[i]? = some (some d) ∧ (∀ ds, d ≠ .own ds) ∧ ∀ ob, d ≠ .obj ob := by
  unfold hide at h
  rw [List.getElem?_map] at h
  cases e : ρ[i]? with
  | none => rw [e] at h; cases h
  | some o =>
    rw [e] at h
    cases o with
    | none => cases h
    | some o =>
      cases o with
      | own ds => cases h
      | obj ob => cases h
      | dat x => cases h; exact ⟨rfl, (fun _ z => by cases z), fun _ z => by cases z⟩
      | src => cases h; exact ⟨rfl, (fun _ z => by cases z), fun _ z => by cases z⟩
      | scr ns => cases h; exact ⟨rfl, (fun _ z => by cases z), fun _ z => by cases z⟩
theorem SOk.rebase {K : Fg} {H0 H : Hp} {W0 W : List Addr} {s : Sc} {σ : St} {ρ : Env'} (S : SOk K H0 W0 s W σ ρ H) : SOk K H W s W σ (hide ρ) H := by
  refine ⟨fun _ z => z, S.tr, fun _ z => .inl z, S.tr, fun _ _ h _ => h, fun a ha => ⟨S.sub a (S.src a ha).1, S.tr a (S.sub a (S.src a ha).1), (S.src a ha).2.2⟩, ⟨S.tab.1, fun p hp => ⟨S.sub _ (S.tab.2 p hp).1, S.tr _ (S.sub _ (S.tab.2 p hp).1)⟩⟩, fun i d h => ?_, fun i j v ds es h => absurd rfl ((hide_get h).2.1 ds), by simp [hide, S.len.1], fun b hb es h0 => absurd rfl ((hide_get h0).2.1 es)⟩
  obtain ⟨h1, h2⟩ := hide_get h
  obtain ⟨v, e1, e2⟩ := S.slot i d h1
  refine ⟨v, e1, ?_⟩
  cases d with
  | own ds => exact absurd rfl (h2.1 ds)
  | obj ob => exact absurd rfl (h2.2 ob)
  | dat x => exact e2
  | src => exact e2
  | scr ns => exact e2
/-- each clause's class takes its own errors alone -/
def ExmOk (K : Fg) : List (Addr × Str) → Prop
  | [] => True
  | (C, _) :: r => PySem.W.exmOne K (.ref C) (.ref C) = some true ∧ (∀ p ∈ r, PySem.W.exmOne K (.ref p.1) (.ref C) = some false) ∧ ExmOk K r
theorem wish_of {K : Fg} {Q : VK} {C dd : Addr} {w : Str} {v : V} {H : Hp} (hx : H dd = some (.xd [(("value" : Str), v)])) (go : ∀ p, H p = none → Q (.ref p) (upd H p (.lst [.str w, v]))) :
    ∀ {cs : List (Addr × Str)}, ExmOk K cs → (C, w) ∈ cs → cWish K Q cs (.ref C) (some dd) H
  | [], _, h => by cases h
  | (C2, w2) :: r, ⟨a, b, c⟩, h => by
    by_cases e : C = C2
    · subst e
      rcases List.mem_cons.mp h with z | z
      · cases z
        exact ⟨true, a, fun _ => ⟨rfl, dd, v, rfl, hx, go⟩, fun z => by cases z⟩
      · have b1 := b _ z
        rw [a] at b1
        cases b1
    · rcases List.mem_cons.mp h with z | z
      · cases z; exact absurd rfl e
      · exact ⟨false, b _ z, (fun z => by cases z), fun _ => wish_of hx go c z⟩
/-- x(lambda: body) -/
def dCaught (P : Addr) (q told : Str) (cs : List (Addr × Str)) (dt : DE) : DE := fun ρ R Er => (P, q) ∈ Er.T ∧
  dt (hide ρ) (fun d _ => R (.list [.str told, d]) ρ) ⟨fun C d => ∃ w, (C, w) ∈ cs ∧ R (.list [.str w, d]) ρ, []⟩
section
variable {X : Cx} {EX : XK}
theorem de_caught {told q : Str} {cs : List (Addr × Str)} {dt : DE} {x a : Str} {g c P : Addr} {k : Nat} {pg : Arguments} {bg : List Stmt} {sg : Scope} {dV kV doc pm cdv ct oc : Value} {an od : Option Addr} {osl : Array (Option Value)} {Ng : List Str}
    {params : Arguments} {body : Expr} {scope : Scope} {p lpos pos : Pos} (gl : Gl X x) (mm : X.mg x = some (.ref g)) (kp : PySem.W.keepIn X.K (.ref g) = true)
    (lk : X.K.lookup g = some ⟨oc, od, .func (PySem.W.fnOf x x pg bg sg dV kV doc pm an cdv ct), osl⟩) (cg : PySem.W.codeIn X.K cdv x = true) (bi : L2.Binds X.K (PySem.W.fnOf x x pg bg sg dV kV doc pm an cdv ct) [a] []) (Sg : FnScope Ng [a] sg) (n0 : Ng[0]? = some a) (va : Vis sg a)
    (G : GivesTo X Ng x sg g cdv bg a q (TTc X.K told cs)) (hq : q = X.env.qual ++ "<lambda>") (xm : ExmOk X.K cs)
    (B : TabB X.base X.mg c P) (cd : X.env.code = .ref c) (hr : Room (k + 2) X.A) (hgd : X.A.guards = some []) (L : LamS X.env.scope scope) (nodef : defaultsOf params X.env = ([], []))
    (bnd : ∀ (q : Str) (cl : List (Str × Addr)) (pm cv ctv : Value), bindArgs (PySem.W.kla_fn "<lambda>" q params body scope cl pm cv ctv) ⟨[], []⟩ = pure [])
    (bd : ∀ (A : Around) (outer : List Env) (s : Shared) (H : Hp) (E : XK) (f d : Addr), Room k (A.deeper (lamEnv X scope s.heap.objs.size f d)) → A.guards = some [] → DEx (lamCx X A outer s H E scope f d) E body dt)
    (d1 : (x == ("__debug__" : Str)) = false := by decide) (d2 : (a == ("__debug__" : Str)) = false := by decide) (d3 : (a == ("__classdict__" : Str)) = false := by decide) :
    DEx X EX (.Call (.Name x p) [.Lambda params body scope lpos] [] pos) (dCaught P q told cs dt) := by
  subst hq
  refine ⟨fun σ H Q => ∃ T : List (Addr × Str), (P, X.env.qual ++ "<lambda>") ∈ T ∧ (∀ p ∈ T, p.1 = P → p.2 = X.env.qual ++ "<lambda>") ∧ tLamB P T (TTc X.K told cs) (fun E => tD X.K E dt) σ H Q, ⟨fun pins s σ H Q I h => ?_⟩, fun s H0 W0 W σ ρ H R Er Q S eo hd kk => ?_⟩
  · obtain ⟨T, h1, h2, h3⟩ := h
    exact (pe_lamB gl mm kp lk cg bi Sg n0 va G B cd h1 h2 hr L nodef bnd (fun A outer s H E f d rm gd => (bd A outer s H E f d rm (gd.trans hgd)).pe) d1 d2 d3).run pins s σ H Q I h3
  · obtain ⟨hT, hd⟩ := hd
    have hp := eo.tabs _ hT
    have nP : ∀ b o, H b = some o → (∀ ps, o ≠ .tbl ps) → b ≠ P := fun b o h n e => by
      obtain ⟨ps, z, _⟩ := S.tab.1 _ hp
      rw [e, z] at h
      exact n ps (Option.some.inj h).symm
    refine ⟨s.tab, hp, fun p h e => s.fn p h _ hp e, S.tab.1, fun H1 bt T1 => ?_⟩
    have S1 : SOk X.K H0 W0 s W σ ρ H1 := S.grow (fun b o n h => bt b o (fun e => n (.inr ⟨_, hp, e.symm⟩)) h) (fun a ha => (S.src a ha).2.2.stay fun o h => bt a o (fun e => by
      obtain ⟨x, y, z, _⟩ := (S.src a ha).2.2
      exact nP a _ z (fun ps w => by cases w) e) h) T1
    have ext1 : Ext W H H1 := fun b o n h => bt b o (fun e => by
      rcases n with n | ⟨xs, rfl⟩
      · exact n (by rw [e]; exact S.sub _ (S.tab.2 _ hp).1)
      · exact nP b _ h (fun ps w => by cases w) e) h
    have fin : ∀ {H2 : Hp} {w : Str} {v : V} {d : PyData}, (∀ b o, H1 b = some o → ¬ s.Has b → H2 b = some o) → (∀ a, s.src = some a → SrcAt H2 a) → Tabs s.tab H2 → Dw X.K H2 W v d → R (.list [.str w, d]) ρ → ∀ p, H2 p = none → Q (.ref p) (upd H2 p (.lst [.str w, v])) :=
      fun {H2 w v d} fr hs ht hw hR p hp => by
        have S2 : SOk X.K H0 W0 s W σ ρ H2 := S1.grow (fun b o n h => fr b o h n) hs ht
        have ext2 : Ext W H1 H2 := fun b o n h => fr b o h (S1.no' n h)
        exact kk _ _ W ρ _ hR (fun _ z => z) ((ext1.trans ext2).trans (Ext.same (same_upd hp))) (S2.alloc hp) (Dw.newLst hp (S2.fresh hp) (.cons (.str w) (.cons hw .nil)))
    refine ⟨s, H1, W, W, hide ρ, _, _, S1.rebase, ⟨(fun _ h => by cases h), fun C d dd v H2 her fr hs ht hdd hxd hdw => ?_⟩, hd, fun v d W' ρ' H2 hR sb ex S' w => ⟨(show 2 ≤ sizeLine by rw [sizeLine_eq]; decide), fin S'.frame (fun a ha => (S'.src a ha).2.2) S'.tab.1 (w.to (Ext.refl _ _) S'.sub) hR⟩⟩
    obtain ⟨w, m, hR⟩ := her
    exact wish_of hxd (fin fr hs ht hdw hR) xm m
end
end DD

/-! The law's own def and the end, with tables of code objects. -/
namespace DD
open PySem PySem.Spec PyProof.Rows L2 LamX
/-- of a law that makes lambdas: T, the tables -/
def spLT (K : Fg) (T : List (Addr × Str)) (ok : List Int → Prop) : Sp := fun vs H Q _ => ∃ (a : Addr) (ns : List Int), vs = [.ref a] ∧ ScrAt K H [] a (ns.map V.int) ∧ (∀ p ∈ T, H p.1 = some (.tbl #[])) ∧ ok ns ∧ ∀ H', Q (.bl true) H'
section
variable {P : Program} {w : World} {K : Fg} {mg : Str → Option Value} {base : Heap}
theorem fun_lT {x qual : Str} {st : Stmt} {f : Addr} {fd : FuncData} {N ps : List Str} {k : Nat} {T : List (Addr × Str)} (uT : ∀ p ∈ T, ∀ q ∈ T, p.1 = q.1 → p.2 = q.2) {ok : List Int → Prop} (F : Fun K x qual st f fd) (S : FnScope N ps (defScope st)) (hn : ps.length = 1) (hN : 1 ≤ N.length)
    {c : Addr} (hc : ∀ (oc : Value) (od : Option Addr) (kV doc pm : Value) (an : Option Addr) (cdv ct : Value) (osl : Array (Option Value)), K.lookup f = some ⟨oc, od, .func (PySem.W.fnOf x qual (defArgs st) (defBody st) (defScope st) .none kV doc pm an cdv ct), osl⟩ → cdv = .ref c)
    (dt : DS) (h : ∀ (cdv : Value) (A : Around) (outer : List Env) (s : Shared) (H : Hp) (E : XK), Room k (A.deeper (envOfC qual (defScope st) s.heap.objs.size f cdv)) → A.guards = some [] → cdv = .ref c → DBx (CXn P w K mg base N qual st f cdv A outer s H E) E0 (defBody st) dt)
    (hd : ∀ ns, ok ns → dt { nx := fun _ => False, rt := fun d _ => d = .bool true } (some (.scr ns) :: List.replicate (N.length - 1) none) ⟨fun _ _ => False, T⟩) :
    FnG P w K mg base CX0 (k + 1) f fd ps (spLT K T ok) := by
  obtain ⟨oc, od, kV, doc, pm, an, cdv, ct, osl, rfl, lk, hcd⟩ := F.ex
  refine fn_g lk hcd S (fun vs H Q E h => ?_) fun A outer s H vs Q E hr hgd hsp => ?_
  · obtain ⟨_, ns, rfl, _⟩ := h
    rw [hn]; rfl
  obtain ⟨t, p, q⟩ := (h cdv A outer s H E hr hgd (hc _ _ _ _ _ _ _ _ _ lk)).ex
  obtain ⟨c, ns, rfl, hsc, hT, hok, k1⟩ := hsp
  refine ⟨t, p.nox, ?_⟩
  have mT : ∀ a ∈ T.map (·.1), H a = some (.tbl #[]) := fun a ha => by
    obtain ⟨r, hr, rfl⟩ := List.mem_map.mp ha
    exact hT r hr
  have hsc' : ScrAt K H (T.map (·.1)) c (ns.map V.int) := by
    rcases hsc with ⟨_, o, e⟩ | r
    · refine .inl ⟨fun z => ?_, o, e⟩
      rw [mT c z] at e
      cases e
    · exact .inr r
  have S0 : SOk K H (T.map (·.1)) ⟨none, T, uT, none⟩ (T.map (·.1)) (L2.start N [V.ref c]) (some (.scr ns) :: List.replicate (N.length - 1) none) H := by
    have e0 : L2.start N [V.ref c] = some (V.ref c) :: List.replicate (N.length - 1) none := rfl
    rw [e0]
    refine ⟨fun _ z => z, fun a ha => ⟨_, mT a ha⟩, fun _ z => .inl z, fun a ha => ⟨_, mT a ha⟩, fun _ _ h _ => h, (fun _ z => nomatch z), ⟨fun r hr => TabS.nil (hT r hr), fun r hr => ⟨List.mem_map.mpr ⟨r, hr, rfl⟩, _, hT r hr⟩⟩, fun i d h => ?_, fun i j v es fs h1 => ?_, by simp, fun _ z => nomatch z⟩
    · match i with
      | 0 => simp at h; subst h; exact ⟨_, rfl, c, rfl, hsc'⟩
      | i + 1 =>
        simp only [List.getElem?_cons_succ, List.getElem?_replicate] at h
        split at h <;> cases h
    · exfalso
      match i with
      | 0 => simp at h1
      | i + 1 =>
        simp only [List.getElem?_cons_succ, List.getElem?_replicate] at h1
        split at h1 <;> cases h1
  refine q _ H _ _ _ _ H _ ⟨fun _ _ => False, T⟩ _ S0 ⟨fun _ z => z, fun _ _ _ _ _ h => h.elim⟩ (hd ns hok) ⟨fun _ _ _ _ h => h.elim, fun W' σ' ρ' H' v d h S' w' => ?_, fun _ _ _ _ h => h.elim, fun _ _ _ _ h => h.elim⟩
  subst h
  cases w'
  exact k1 H'
theorem law_runT {mb : Str → Option Value} {k : Nat} {fa a : Addr} {fd : FuncData} {x : Str} {ok : List Int → Prop} {cs : List (Addr × Addr)} {T : List (Addr × Str)} {t : Shared} {vs : List Value} {ns : List Int} (KX : K.In t.heap) (g1 : t.heap.Ns mainGlobals mg) (g2 : t.heap.Ns builtinsNs mb)
    (g3 : ∀ y : Str, y ≠ "__name__" → mb y = bootBuiltins y) (nl : t.heap.NoLimit) (hg : t.gens = #[]) (raw : ∀ p ∈ cs, t.heap.get? p.2 = some { cls := .none, data := .fields #[] }) (notK : ∀ p ∈ cs, K.lookup p.2 = none) (heads : ∀ p ∈ cs, PySem.W.CodeHd t.heap p.1 p.2) (cT : ∀ p ∈ T, ∃ q ∈ cs, q.2 = p.1)
    (bmain : ∃ (bm : Addr) (ob : Obj), mg "__builtins__" = some (.ref bm) ∧ bm ≠ builtinsNs ∧ t.heap.get? bm = some ob ∧ ob.cls = .type "module" ∧ ob.dict = some builtinsNs ∧ ob.data = .plain)
    (ha : t.heap.get? a = some { cls := .type "list", data := .seq vs.toArray }) (hi : IntsAre vs ns) (hl : ns.length ≤ sizeLine) (hr : Room k callerA)
    (F : ∀ base : Heap, K.In base → base.Ns mainGlobals mg → (∀ p ∈ cs, TabB base mg p.1 p.2) → FnG P w K mg base CX0 k fa fd [x] (spLT K T ok)) (hb : ∀ (s : Shared) (u : Value), BindsTo s fd ⟨[u], []⟩ [(x, u)]) (hok : ok ns) :
    codeAny (model P w) callerA (.call (.ref fa) ⟨[.ref a], []⟩) (fun r t' => r = .ok (.ret (.bool true)) ∧ OldK t.heap t'.heap ∧ t'.os = t.os ∧ AllBare t'.gens) t := by
  have rv := vals_ints hi
  have lv := hi.length
  have tabD : ∀ {b : Addr}, (∃ p ∈ cs, p.2 = b) → t.heap.get? b = some { cls := .none, data := .fields #[] } := fun {b} h => by
    obtain ⟨p, hp, rfl⟩ := h
    exact raw p hp
  have aT : ¬ ∃ p ∈ cs, p.2 = a := fun z => by
    have e := tabD z
    rw [ha] at e
    cases e
  have core : ∀ H : Hp, (∀ p ∈ cs, H p.2 = some (.tbl #[])) → (∀ b u, H b = some u → (b = a ∧ K.lookup a = none ∧ u = .frz { cls := .type "list", data := .seq vs.toArray } (.lst (ns.map V.int))) ∨ ((∃ p ∈ cs, p.2 = b) ∧ u = .tbl #[])) → ScrAt K H [] a (ns.map V.int) →
      codeAny (model P w) callerA (.call (.ref fa) ⟨[.ref a], []⟩) (fun r t' => r = .ok (.ret (.bool true)) ∧ OldK t.heap t'.heap ∧ t'.os = t.os ∧ AllBare t'.gens) t := by
    intro H hH hO hS
    have ok0 : HOk P w H t.heap := fun b u e => by
      rcases hO b u e with ⟨rfl, _, rfl⟩ | ⟨z, rfl⟩
      · exact ⟨ha, by rw [List.length_map]; exact hl, vs, _, rv, ha⟩
      · exact tabD z
    have none_of : ∀ {b : Addr} {o : Obj}, t.heap.get? b = some o → o.data ≠ .seq vs.toArray 0 → o.data ≠ .fields #[] → H b = none := fun {b o} e n1 n2 => by
      cases q : H b with
      | none => rfl
      | some u =>
        rcases hO b u q with ⟨rfl, _, _⟩ | ⟨z, _⟩
        · rw [ha] at e
          cases e
          exact (n1 rfl).elim
        · rw [tabD z] at e
          cases e
          exact (n2 rfl).elim
    have ns_of : ∀ {b : Addr} {m : Str → Option Value}, t.heap.Ns b m → (hidT t.heap H).Ns b m := fun {b m} h => by
      obtain ⟨o, es, ep, e, d, r⟩ := h
      exact ⟨o, es, ep, hidT_get e (none_of e (by rw [d]; exact fun z => by cases z) (by rw [d]; exact fun z => by cases z)), d, r⟩
    have kb : K.In (hidT t.heap H) := fun b o e => hidT_get (KX b o e) (by
      cases q : H b with
      | none => rfl
      | some u =>
        rcases hO b u q with ⟨rfl, z, _⟩ | ⟨⟨p, hp, rfl⟩, _⟩
        · rw [z] at e
          cases e
        · rw [notK p hp] at e
          cases e)
    have md : Mod K mg (hidT t.heap H) := ⟨kb, ns_of g1, ⟨mb, ns_of g2, g3⟩, nl.elim fun mc h => ⟨mc, ns_of h.1, h.2⟩⟩
    have tb : ∀ p ∈ cs, TabB (hidT t.heap H) mg p.1 p.2 := fun p hp => by
      have here := raw p hp
      constructor
      · obtain ⟨o, us, file, tf, flags, tg, inF, text, tt, e1, r1, r2, r3, r⟩ := heads p hp
        refine ⟨o, us, file, tf, flags, tg, inF, text, tt, hidT_get e1 (none_of e1 (by rw [r2]; exact fun z => by cases z) ?_), r1, r2, r3, r⟩
        rw [r2]
        intro z
        cases z
        simp at r3
      · obtain ⟨bm, ob, b1, b2, b3, b4, b5, b6⟩ := bmain
        refine ⟨bm, ob, b1, b2, fun q => ?_, fun q => ?_, hidT_get b3 (none_of b3 (by rw [b6]; exact fun z => by cases z) (by rw [b6]; exact fun z => by cases z)), b4, b5, b6⟩
        · obtain ⟨o, es, ep, e, hd, _⟩ := g1
          rw [q, e] at b3
          cases b3
          rw [hd] at b6
          cases b6
        · rw [q, here] at b3
          cases b3
          cases b6
      · intro z
        obtain ⟨o, es, ep, e, hd, _⟩ := g1
        rw [z, here] at e
        cases e
        cases hd
    have en : Env0 P w K mg (hidT t.heap H) callerA [] t H := ⟨rfl, md, fun b o e => of_hidT e, Nat.le_of_eq (hidT_size _ _), trivial, (fun b z => absurd (show b ∈ ([] : List Addr) from z) (by simp)), ok0, .of_eq hg⟩
    have sp0 : spLT K T ok [.ref a] H (fun v _ => v = .bl true) (fun _ _ _ => False) := ⟨a, ns, rfl, hS, fun p hp => by
      obtain ⟨q, hq, e⟩ := cT p hp
      rw [← e]
      exact hH q hq, hok, fun _ => rfl⟩
    refine codeAny_mono ((F _ kb (ns_of g1) tb).run callerA [] t H ⟨[.ref a], []⟩ [.ref a] [.ref a] (fun v _ => v = .bl true) (fun _ _ _ => False) hr rfl en (hb t (.ref a)) (.cons rfl .nil) sp0) fun r t' h => ?_
    rcases r with e | fl
    · exact (show False from h).elim
    · cases fl with
      | ret u =>
        obtain ⟨v, H', os, bare, un, ok', r', q⟩ := h
        have q' : v = .bl true := q
        subst q'
        obtain rfl : u = Value.bool true := r'
        have stay : ∀ b o, (¬ ∃ p ∈ cs, p.2 = b) → t.heap.get? b = some o → t'.heap.get? b = some o := fun b o n e => by
          cases q : H b with
          | none => exact un.keep b o e q (fun z => absurd (show b ∈ ([] : List Addr) from z) (by simp)) (by simp)
          | some u =>
            rcases hO b u q with ⟨rfl, _, rfl⟩ | ⟨z, _⟩
            · obtain ⟨e2, _⟩ := ok' b _ (un.frzs b _ _ q)
              rw [ha] at e
              cases e
              exact e2
            · exact (n z).elim
        have more : ∀ p ∈ cs, ∃ qs : Array Value, t'.heap.get? p.2 = some { cls := .none, data := .fields qs } := fun p hp => by
          obtain ⟨qs, z⟩ := un.tbls p.2 #[] (hH p hp)
          exact ⟨_, ok' p.2 _ z⟩
        refine ⟨rfl, ⟨fun b o e => ?_, fun b o e => ?_⟩, os, bare⟩
        · by_cases z : ∃ p ∈ cs, p.2 = b
          · obtain ⟨p, hp, rfl⟩ := z
            obtain ⟨qs, hq⟩ := more p hp
            rw [raw p hp] at e
            cases e
            exact .inr (.inl ⟨((heads p hp).tab (raw p hp)).isCodeTable, rfl, #[], qs, rfl, by rw [Array.empty_append]; exact hq⟩)
          · exact .inl (stay b o z e)
        · by_cases z : ∃ p ∈ cs, p.2 = b
          · obtain ⟨p, hp, rfl⟩ := z
            obtain ⟨qs, hq⟩ := more p hp
            exact ⟨_, hq⟩
          · exact ⟨o, stay b o z e⟩
      | next => exact (show False from h).elim
      | brk => exact (show False from h).elim
      | cont => exact (show False from h).elim
  -- the heap in which the tables alone are known
  have hT : ∃ H : Hp, (∀ p ∈ cs, H p.2 = some (.tbl #[])) ∧ ∀ b u, H b = some u → (∃ p ∈ cs, p.2 = b) ∧ u = .tbl #[] := by
    refine ⟨fun b => if b ∈ cs.map (·.2) then some (.tbl #[]) else none, fun p hp => if_pos (List.mem_map.mpr ⟨p, hp, rfl⟩), fun b u z => ?_⟩
    by_cases hm : b ∈ cs.map (·.2)
    · have z' : some (HO.tbl #[]) = some u := (if_pos hm).symm.trans z
      cases z'
      exact ⟨List.mem_map.mp hm, rfl⟩
    · have z' : none = some u := (if_neg hm).symm.trans z
      cases z'
  obtain ⟨H, h1, h2⟩ := hT
  have na : H a = none := by
    cases q : H a with
    | none => rfl
    | some u => exact (aT (h2 a u q).1).elim
  cases hk : K.lookup a with
  | some o =>
    have e := KX a o hk
    rw [ha] at e
    cases e
    exact core H h1 (fun b u z => .inr (h2 b u z)) (.inr ⟨_, vs.toArray, _, hk, rfl, rfl, rfl, by rw [List.size_toArray, lv]; exact hl, by simpa using rv⟩)
  | none =>
    refine core (upd H a (.frz { cls := .type "list", data := .seq vs.toArray } (.lst (ns.map V.int)))) (fun p hp => ?_) (fun b u z => ?_) (.inl ⟨by simp, _, upd_same⟩)
    · rw [upd_ne (fun e => aT ⟨p, hp, e⟩)]
      exact h1 p hp
    · by_cases e : b = a
      · subst e
        rw [upd_same] at z
        cases z
        exact .inl ⟨rfl, hk, rfl⟩
      · rw [upd_ne e] at z
        exact .inr (h2 b u z)
end
/-- what the head tells of the law with its tables -/
def LawT (P : Program) (w : World) (K : Fg) (k : Nat) (x : Str) (ok : List Int → Prop) (mg : Str → Option Value) (fa : Addr) (h : Heap) : Prop :=
  ∃ (fd : FuncData) (cs : List (Addr × Addr)) (T : List (Addr × Str)), (∀ p ∈ cs, h.get? p.2 = some { cls := .none, data := .fields #[] }) ∧ (∀ p ∈ cs, K.lookup p.2 = none) ∧ (∀ p ∈ cs, PySem.W.CodeHd h p.1 p.2) ∧ (∀ p ∈ T, ∃ q ∈ cs, q.2 = p.1) ∧
    (∀ (s : Shared) (u : Value), BindsTo s fd ⟨[u], []⟩ [(x, u)]) ∧ ∀ base : Heap, K.In base → base.Ns mainGlobals mg → (∀ p ∈ cs, TabB base mg p.1 p.2) → FnG P w K mg base CX0 k fa fd [x] (spLT K T ok)
open PySem.W in
theorem walk_gT {l : OpenLaw} {n k : Nat} {q : Program} {loose : List Str} {XP : (Str → Option Value) → Heap → Prop} {YP : World → Heap → Prop} {d : DefRec} {K : Params → Frag} {x : Str} {ok : List Int → Prop} (hn : l.most = some n) (hn2 : n ≤ sizeLine) (hdf : d.params.defaults = []) (hr : Room k callerA)
    (hY : ∀ (w : World) (h : Heap), YP w h → (K w.params).In h)
    (F : ∀ (w : World) (mg : Str → Option Value) (fa : Addr) (h : Heap), YP w h → (K w.params).In h → h.Ns mainGlobals mg → mg d.name = some (.ref fa) → LawT l.prog w (K w.params) k x ok mg fa h)
    (hok : ∀ ns : List Int, ns.length ≤ n → (∀ z ∈ ns, Builtin.Int.intBits z ≤ 1048576) → ok ns) : WalkO q loose XP YP l.row.toRowW d [] (fun f vs => PySem.call f vs) := by
  refine Att.attach_callB hn hdf fun w s₀ t mg mb fa o pm cd doc a vs ns G Y ho hd hcd hmg hobj hints hlen hbits hg => ?_
  obtain ⟨fd, cs, T, c1, c2, c3, c4, hb, hF⟩ := F w mg fa _ Y (hY w _ Y) G.T.g hmg
  exact law_runT (hY w _ Y) G.T.g G.T.b G.T.builtins G.T.nolimit hg c1 c2 c3 c4 G.T.bmain hobj hints (Nat.le_trans hlen hn2) hr hF hb (hok ns hlen hbits)
end DD

/-! repr of data with dicts: only the dicts must not be the table of modules. -/
namespace DD
open PySem PyProof.Rows
mutual
inductive RdS (h : Heap) : Value → PyData → Prop
  | non : RdS h .none .none
  | bl (b : Bool) : RdS h (.bool b) (.bool b)
  | int (i : Int) (t : Tok) : RdS h (.int i t) (.int i)
  | str (x : Str) (t : Tok) : RdS h (.str x t) (.str x)
  | lst {a : Addr} {o : Obj} {vs : Array Value} {n : Nat} {xs : List PyData} : h.get? a = some o → o.cls = .type "list" → o.data = .seq vs n → RdSA h vs.toList xs → RdS h (.ref a) (.list xs)
  | tup {a : Addr} {o : Obj} {vs : Array Value} {n : Nat} {xs : List PyData} : h.get? a = some o → o.cls = .type "tuple" → o.data = .seq vs n → RdSA h vs.toList xs → RdS h (.ref a) (.tuple xs)
  | dct {a : Addr} {o : Obj} {es : Array DictEntry} {n : Nat} {kvs : List (PyData × PyData)} : (a == sysModules) = false → h.get? a = some o → o.cls = .type "dict" → o.data = .dict es n →
      RdSA h (es.toList.map (·.key)) (kvs.map (·.1)) → RdSA h (es.toList.map (·.val)) (kvs.map (·.2)) → RdS h (.ref a) (.dict kvs)
inductive RdSA (h : Heap) : List Value → List PyData → Prop
  | nil : RdSA h [] []
  | cons {v : Value} {vs : List Value} {d : PyData} {ds : List PyData} : RdS h v d → RdSA h vs ds → RdSA h (v :: vs) (d :: ds)
end
section
variable {h : Heap} {prog : Program} {w : World}
mutual
theorem RdS.reads : ∀ {v : Value} {d : PyData}, RdS h v d → ∃ as, Reads h v d as
  | _, _, .non => ⟨_, .none⟩
  | _, _, .bl b => ⟨_, .bool b⟩
  | _, _, .int i t => ⟨_, .int i t⟩
  | _, _, .str x t => ⟨_, .str x t⟩
  | _, _, .lst e c f r => let ⟨_, q⟩ := RdSA.reads r; ⟨_, .list e c f q⟩
  | _, _, .tup e c f r => let ⟨_, q⟩ := RdSA.reads r; ⟨_, .tuple e c f q⟩
  | _, _, .dct _ e c f r1 r2 => let ⟨_, q1⟩ := RdSA.reads r1; let ⟨_, q2⟩ := RdSA.reads r2; ⟨_, .dict e c f q1 q2⟩
theorem RdSA.reads : ∀ {vs : List Value} {ds : List PyData}, RdSA h vs ds → ∃ as, ReadsAll h vs ds as
  | _, _, .nil => ⟨_, .nil⟩
  | _, _, .cons a b => let ⟨_, q1⟩ := RdS.reads a; let ⟨_, q2⟩ := RdSA.reads b; ⟨_, .cons q1 q2⟩
end
mutual
theorem RdS.shows : ∀ {v : Value} {d : PyData}, RdS h v d → d.showable = true → d.shown.length ≤ sizeLine → ∃ bs, ReadAtMost h d.depth bs ∧ ReprK prog w bs h d.depth v d.shown
  | _, _, .non, _, _ => by
    refine ⟨[], (fun _ z => nomatch z), ?_⟩
    simp only [PyData.shown]
    exact .of_is ReprIs.none _ _ _
  | _, _, .bl b, _, _ => by
    refine ⟨[], (fun _ z => nomatch z), ?_⟩
    simp only [PyData.shown]
    exact .of_is (ReprIs.bool b) _ _ _
  | _, _, .int i t, s, _ => by
    refine ⟨[], (fun _ z => nomatch z), ?_⟩
    simp only [PyData.shown]
    exact .of_is (ReprIs.int t (by simpa [PyData.showable] using s)) _ _ _
  | _, _, .str x t, _, z => by
    refine ⟨[], (fun _ z => nomatch z), ?_⟩
    simp only [PyData.shown] at z ⊢
    exact .of_is (ReprIs.str x t z) _ _ _
  | _, _, .lst (a := a) (vs := vs) (xs := xs) e c f q, s, z => by
    simp only [PyData.shown] at z
    obtain ⟨as, rq⟩ := RdSA.reads q
    have me : Reads h (.ref a) (.list xs) _ := .list e c f rq
    obtain ⟨bs, low, each⟩ := RdSA.shows q (by simpa only [PyData.showable] using s) fun t m => Nat.le_trans (listText_mem_le m) z
    have out : a ∉ bs := not_mem_of_deeper me (Nat.lt_succ_self _) low
    refine ⟨a :: bs, ReadAtMost.cons me (Nat.le_succ _) low, ?_⟩
    simp only [PyData.depth, PyData.shown]
    rcases vs with ⟨_ | ⟨u, us⟩⟩
    · cases q
      simp only [PyData.shownAll, listText_nil]
      exact ReprK.listEmpty e c f
    · exact ReprK.list e c f out (by simpa using each.length_eq) fun i y hy => each.item i y (by simpa using hy)
  | _, _, .tup (a := a) (xs := xs) e c f q, s, z => by
    simp only [PyData.shown] at z
    obtain ⟨as, rq⟩ := RdSA.reads q
    have me : Reads h (.ref a) (.tuple xs) _ := .tuple e c f rq
    obtain ⟨bs, low, each⟩ := RdSA.shows q (by simpa only [PyData.showable] using s) fun t m => Nat.le_trans (tupleText_mem_le m) z
    refine ⟨a :: bs, ReadAtMost.cons me (Nat.le_succ _) low, ?_⟩
    simp only [PyData.depth, PyData.shown]
    exact ReprK.tuple e c f (not_mem_of_deeper me (Nat.lt_succ_self _) low) each
  | _, _, .dct (a := a) (es := es) (kvs := kvs) ns e c f q1 q2, s, z => by
    simp only [PyData.shown] at z
    obtain ⟨_, r1⟩ := RdSA.reads q1
    obtain ⟨_, r2⟩ := RdSA.reads q2
    have me : Reads h (.ref a) (.dict kvs) _ := .dict e c f r1 r2
    obtain ⟨s1, s2⟩ := PyData.showableKv_split kvs (by simpa only [PyData.showable] using s)
    obtain ⟨b1, low1, k1⟩ := RdSA.shows q1 s1 fun t m => by
      obtain ⟨p, hp, le⟩ := PyData.shownKv_key_le kvs t m
      exact Nat.le_trans le (Nat.le_trans (dictText_mem_le hp) z)
    obtain ⟨b2, low2, k2⟩ := RdSA.shows q2 s2 fun t m => by
      obtain ⟨p, hp, le⟩ := PyData.shownKv_val_le kvs t m
      exact Nat.le_trans le (Nat.le_trans (dictText_mem_le hp) z)
    have low := (low1.mono (PyData.depthAll_keys_le kvs)).append (low2.mono (PyData.depthAll_vals_le kvs))
    refine ⟨a :: (b1 ++ b2), ReadAtMost.cons me (Nat.le_succ _) low, ?_⟩
    simp only [PyData.depth, PyData.shown, PyData.shownKv_eq]
    have K1 := k1.more_le (as' := b1 ++ b2) (fun b m => List.mem_append_left _ m) (PyData.depthAll_keys_le kvs)
    have K2 := k2.more_le (as' := b1 ++ b2) (fun b m => List.mem_append_right _ m) (PyData.depthAll_vals_le kvs)
    exact ReprK.dict e c f ns (not_mem_of_deeper me (Nat.lt_succ_self _) low) (ReprEntriesK.of_two es.toList _ _ K1 K2)
theorem RdSA.shows : ∀ {vs : List Value} {ds : List PyData}, RdSA h vs ds → PyData.showableAll ds = true → (∀ t ∈ PyData.shownAll ds, t.length ≤ sizeLine) → ∃ bs, ReadAtMost h (PyData.depthAll ds) bs ∧ ReprAllK prog w bs h (PyData.depthAll ds) vs (PyData.shownAll ds)
  | _, _, .nil, _, _ => by
    refine ⟨[], (fun _ z => nomatch z), ?_⟩
    simp only [PyData.shownAll]
    exact .nil
  | _, _, .cons (d := d) (ds := ds) a b, s, z => by
    simp only [PyData.showableAll, Bool.and_eq_true] at s
    simp only [PyData.shownAll, List.mem_cons, forall_eq_or_imp] at z
    obtain ⟨b1, low1, k1⟩ := RdS.shows a s.1 z.1
    obtain ⟨b2, low2, k2⟩ := RdSA.shows b s.2 z.2
    have l1 : d.depth ≤ PyData.depthAll (d :: ds) := by simp only [PyData.depthAll]; exact Nat.le_max_left _ _
    have l2 : PyData.depthAll ds ≤ PyData.depthAll (d :: ds) := by simp only [PyData.depthAll]; exact Nat.le_max_right _ _
    refine ⟨b1 ++ b2, (low1.mono l1).append (low2.mono l2), ?_⟩
    rw [PyData.shownAll]
    exact .cons ((k1.more fun b m => List.mem_append_left _ m).level_le l1) (k2.more_le (fun b m => List.mem_append_right _ m) l2)
end
theorem RdS.by {a : Addr} {d : PyData} (r : RdS h (.ref a) d) (s : d.showable = true) (z : d.shown.length ≤ sizeLine) : ∃ T idr, ShowsBy prog w h a d T idr := by
  cases r with
  | lst e c f q =>
    rename_i o vs n xs
    simp only [PyData.shown] at z
    obtain ⟨as, rq⟩ := RdSA.reads q
    obtain ⟨bs, low, each⟩ := RdSA.shows (prog := prog) (w := w) q (by simpa only [PyData.showable] using s) fun t m => Nat.le_trans (listText_mem_le m) z
    have out : a ∉ bs := not_mem_of_deeper (.list e c f rq) (Nat.lt_succ_self _) low
    refine ⟨"list", "list.__repr__", F.slot_list_repr.toG, F.slot_list_str, F.slot_list_format, fun t kp => ⟨o, kp _ _ e, c⟩, fun A E t Q gd un kp go => ?_⟩
    simp only [PyData.depth] at un
    simp only [PyData.shown] at go
    rcases vs with ⟨_ | ⟨u, us⟩⟩
    · cases q
      simp only [PyData.shownAll, listText_nil] at go
      exact call_list_repr_empty ⟨o, kp _ _ e, c⟩ (kp _ _ e) f (go t.heap _ _ fun _ _ e => e)
    · exact call_list_reprK e c f out (by simpa using each.length_eq) (fun i y hy => each.item i y (by simpa using hy)) gd (fun b _ => Clear.nil b) un kp go z
  | tup e c f q =>
    rename_i o vs n xs
    simp only [PyData.shown] at z
    obtain ⟨as, rq⟩ := RdSA.reads q
    obtain ⟨bs, low, each⟩ := RdSA.shows (prog := prog) (w := w) q (by simpa only [PyData.showable] using s) fun t m => Nat.le_trans (tupleText_mem_le m) z
    refine ⟨"tuple", "tuple.__repr__", F.slot_tuple_repr, F.slot_tuple_str, F.slot_tuple_format, fun t kp => ⟨o, kp _ _ e, c⟩, fun A E t Q gd un kp go => ?_⟩
    simp only [PyData.depth] at un
    simp only [PyData.shown] at go
    exact call_tuple_reprK e c f (not_mem_of_deeper (.tuple e c f rq) (Nat.lt_succ_self _) low) each gd (fun b _ => Clear.nil b) un kp go z
  | dct ns e c f q1 q2 =>
    rename_i o es n kvs
    simp only [PyData.shown] at z
    obtain ⟨_, r1⟩ := RdSA.reads q1
    obtain ⟨_, r2⟩ := RdSA.reads q2
    obtain ⟨s1, s2⟩ := PyData.showableKv_split kvs (by simpa only [PyData.showable] using s)
    obtain ⟨b1, low1, k1⟩ := RdSA.shows (prog := prog) (w := w) q1 s1 fun t m => by
      obtain ⟨p, hp, le⟩ := PyData.shownKv_key_le kvs t m
      exact Nat.le_trans le (Nat.le_trans (dictText_mem_le hp) z)
    obtain ⟨b2, low2, k2⟩ := RdSA.shows (prog := prog) (w := w) q2 s2 fun t m => by
      obtain ⟨p, hp, le⟩ := PyData.shownKv_val_le kvs t m
      exact Nat.le_trans le (Nat.le_trans (dictText_mem_le hp) z)
    have low := (low1.mono (PyData.depthAll_keys_le kvs)).append (low2.mono (PyData.depthAll_vals_le kvs))
    have out : a ∉ b1 ++ b2 := not_mem_of_deeper (.dict e c f r1 r2) (Nat.lt_succ_self _) low
    have K1 := k1.more_le (as' := b1 ++ b2) (fun b m => List.mem_append_left _ m) (PyData.depthAll_keys_le kvs)
    have K2 := k2.more_le (as' := b1 ++ b2) (fun b m => List.mem_append_right _ m) (PyData.depthAll_vals_le kvs)
    refine ⟨"dict", "dict.__repr__", F.slot_dict_repr, F.slot_dict_str, F.slot_dict_format, fun t kp => ⟨o, kp _ _ e, c⟩, fun A E t Q gd un kp go => ?_⟩
    simp only [PyData.depth] at un
    simp only [PyData.shown, PyData.shownKv_eq] at go
    exact call_dict_reprK e c f ns out (ReprEntriesK.of_two es.toList _ _ K1 K2) gd (fun b _ => Clear.nil b) un kp go (by rw [← PyData.shownKv_eq]; exact z)
theorem RdS.repr {A : Around} {E Q : Value → Shared → Prop} {t : Shared} {a : Addr} {d : PyData} (r : RdS h (.ref a) d) (s : d.showable = true) (gd : A.guards = some []) (un : A.units + (d.depth + 1) < cLine) (kp : ∀ b o, h.get? b = some o → t.heap.get? b = some o)
    (go : ∀ g u tk, (∀ b o, t.heap.get? b = some o → g.get? b = some o) → Q (.str d.shown u) { t with heap := g, toks := tk }) (z : d.shown.length ≤ sizeLine) : wpAny (model prog w) A (call (.builtin "repr") [.ref a]) Q E t := by
  obtain ⟨T, idr, S⟩ := RdS.by (prog := prog) (w := w) r s z
  exact call_repr_slot (by omega) (S.typeIs t kp) S.slotRepr (S.call A.in1 E t _ gd (by show A.units + 1 + d.depth < cLine; omega) kp fun g u tk k => ⟨_, _, rfl, go g u tk k⟩)
end
end DD

/-! repr over data, with dicts -/
namespace DD
open PySem L2
section
variable {X : Cx} {pins : List (Addr × Obj)} {σ : L2.St} {H : Hp} {s : Shared} {W : List Addr}
theorem keys_rd {hp : Heap} : ∀ {es : List DictEntry} {vs : List (Key × Value)} {ks : List PyData}, PySem.Pairs (mixKind X.prog X.w) es vs → ks = vs.map (fun p => keyD p.1) → RdSA hp (es.map (·.key)) ks
  | _, _, _, .nil, e => by subst e; exact .nil
  | _, _, _, .cons hk _ hr, e => by
    subst e
    refine .cons ?_ (keys_rd hr rfl)
    rcases keyIs_shape hk with ⟨i, t, e1, e2⟩ | ⟨x, t, e1, e2⟩
    · simp only [e1, e2]; exact .int i t
    · simp only [e1, e2]; exact .str x t
theorem vals_rel : ∀ {es : List DictEntry} {vs : List (Key × Value)} {kvs : List (Key × V)}, PySem.Pairs (mixKind X.prog X.w) es vs → KV kvs vs → Vals (kvs.map (·.2)) (es.map (·.val))
  | _, _, _, .nil, .nil => .nil
  | _, _, _, .cons _ hv hr, .cons r rs => (.cons (by simp only [hv]; exact r.2) (vals_rel hr rs))
theorem keys_eq : ∀ {vs : List (Key × Value)} {kvs : List (Key × V)}, KV kvs vs → kvs.map (fun p => keyD p.1) = vs.map (fun p => keyD p.1)
  | _, _, .nil => rfl
  | _, _, .cons r rs => by rw [List.map_cons, List.map_cons, keys_eq rs, r.1]
theorem keyV_rd {hp : Heap} : ∀ {ks : List Key} {us : List Value}, Vals (ks.map kV) us → RdSA hp us (ks.map keyD)
  | [], _, r => by cases r; exact .nil
  | k :: t, _, r => by
    cases r with
    | cons a b =>
      refine .cons ?_ (keyV_rd b)
      cases k with
      | inl i => obtain ⟨t, rfl⟩ := a; exact .int i t
      | inr x => obtain ⟨t, rfl⟩ := a; exact .str x t
theorem keys_rdT (I : Inv X pins σ H s) : ∀ {kvs : List (List Key × V)} {xs : List (List Key × Addr × Value)}, KT H kvs xs → RdSA s.heap (xs.map fun x => Value.ref x.2.1) (kvs.map fun p => PyData.tuple (p.1.map keyD))
  | _, _, .nil => .nil
  | _, _, .cons g t => by
    refine .cons ?_ (keys_rdT I t)
    obtain ⟨its, rv, ⟨o, g1, hc, m, hdat⟩, _⟩ := I.tuple (SqT.of g.2.1)
    exact .tup g1 hc hdat (by simpa using keyV_rd rv)
theorem vals_rdT : ∀ {kvs : List (List Key × V)} {xs : List (List Key × Addr × Value)}, KT H kvs xs → Vals (kvs.map (·.2)) (xs.map fun x => x.2.2)
  | _, _, .nil => .nil
  | _, _, .cons g t => .cons g.2.2 (vals_rdT t)
mutual
theorem Dw.rds (I : Inv X pins σ H s) : ∀ {v : V} {d : PyData} {u : Value}, Dw X.K H W v d → RelV v u → RdS s.heap u d
  | _, _, _, .non, r => by cases r; exact .non
  | _, _, _, .bl b, r => by cases r; exact .bl b
  | _, _, _, .int i, r => by obtain ⟨t, rfl⟩ := r; exact .int i t
  | _, _, _, .str x, r => by obtain ⟨t, rfl⟩ := r; exact .str x t
  | _, _, _, .lst n e q, r => by
    cases r
    obtain ⟨its, rv, ⟨o, m, g, hc, _, hdat⟩, _⟩ := I.list (SqL.of e)
    exact .lst g hc hdat (by simpa using DwA.rds I q rv)
  | _, _, _, .tup e q, r => by
    cases r
    obtain ⟨its, rv, ⟨o, g, hc, m, hdat⟩, _⟩ := I.tuple (SqT.of e)
    exact .tup g hc hdat (by simpa using DwA.rds I q rv)
  | _, _, _, .ktup k q, r => by
    cases r
    obtain ⟨o0, its0, n0, h1, h2, h3, h4, h5⟩ := k
    obtain ⟨its, rv, ⟨o, g, hc, m, hdat⟩, _⟩ := I.tuple (show SqT X.K H _ _ from .inr ⟨o0, its0, n0, h1, h2, h3, h4, h5⟩)
    exact .tup g hc hdat (by simpa using DwA.rds I q rv)
  | _, _, _, .dct n e hk q, r => by
    cases r
    obtain ⟨_, hS, vs, kv, o, es, ep, ho, hx, hdat, _, hpr, _⟩ := I.hok _ _ e
    refine .dct hS ho hx.1 hdat (keys_rd hpr ?_) (DwA.rds I q (vals_rel hpr kv))
    rw [hk]
    exact keys_eq kv
  | _, _, _, .dcT n e e0 hk q, r => by
    cases r
    obtain ⟨_, hS, xs, pr, o, es, ep, ho, hx, hdat, he, _⟩ := I.hok _ _ e
    have k1 : es.toList.map (·.key) = xs.map fun x => Value.ref x.2.1 := by rw [he, List.map_map]; rfl
    have k2 : es.toList.map (·.val) = xs.map fun x => x.2.2 := by rw [he, List.map_map]; rfl
    refine .dct hS ho hx.1 hdat ?_ (DwA.rds I q (by rw [k2]; exact vals_rdT pr))
    rw [k1, hk]
    exact keys_rdT I pr
theorem DwA.rds (I : Inv X pins σ H s) : ∀ {vs : List V} {ds : List PyData} {us : List Value}, DwA X.K H W vs ds → Vals vs us → RdSA s.heap us ds
  | _, _, _, .nil, r => by cases r; exact .nil
  | _, _, _, .cons a b, r => by
    cases r with
    | cons r1 r2 => exact .cons (Dw.rds I a r1) (DwA.rds I b r2)
end
end
/-- data that repr may be asked of, dicts too -/
def rOkD (d : PyData) : Bool := d.showable && decide (d.depth ≤ 60) && decide (sz d ≤ 16777216)
def fReprD : DF
  | [d] => if rOkD d then some (.str d.shown) else none
  | _ => none
section
variable {X : Cx} {EX : XK}
def rReprD (K : Fg) : List V → Hp → VK → Prop := fun vs H Q => ∃ (v : V) (d : PyData) (W : List Addr), vs = [v] ∧ Dw K H W v d ∧ rOkD d = true ∧ Q (.str d.shown) H
theorem call_reprDD (hg : X.A.guards = some []) (hu : X.A.units + 64 < cLine) : CallR X (.builtin "repr") (rReprD X.K) := by
  intro pins s σ H vs us Q I r h
  obtain ⟨v, d, W, rfl, hd, ho, q⟩ := h
  obtain ⟨u, rfl, rv⟩ := vals1 r
  unfold rOkD at ho
  simp only [Bool.and_eq_true, decide_eq_true_eq] at ho
  obtain ⟨⟨h1, h2⟩, h3⟩ := ho
  have hl : d.shown.length ≤ sizeLine := Nat.le_trans (shown_sz d h1 (by omega)) (by rw [sizeLine_eq]; exact h3)
  have big : ∀ a, u = .ref a → wpAny (model X.prog X.w) X.A (call (.builtin "repr") [u]) (EP X pins σ Q) X.xe s := fun a e => by
    subst e
    exact RdS.repr (Dw.rds I hd rv) h1 hg (by omega) (fun _ _ e => e) (fun h' u' tk hk => ⟨.str d.shown, H, I.kept hk, ⟨_, rfl⟩, q⟩) hl
  cases hd with
  | non => cases rv; exact P.repr_of_none ⟨.str _, H, I.tok _, ⟨_, rfl⟩, q⟩
  | bl b =>
    cases rv
    refine P.repr_of_bool ⟨.str _, H, I.tok _, ⟨_, rfl⟩, ?_⟩
    cases b <;> exact q
  | int i =>
    obtain ⟨t, rfl⟩ := rv
    have h' : i.natAbs.log2 < 1920 := by simpa only [PyData.showable, decide_eq_true_eq] using h1
    exact P.repr_of_int h' ⟨.str _, H, I.tok _, ⟨_, rfl⟩, q⟩
  | str x =>
    obtain ⟨t, rfl⟩ := rv
    exact P.repr_of_str ⟨.str _, H, I.tok _, ⟨_, rfl⟩, q⟩ (by simpa only [PyData.shown] using hl)
  | lst n r q => cases rv; exact big _ rfl
  | tup r q => cases rv; exact big _ rfl
  | ktup n q => cases rv; exact big _ rfl
  | dct n r k q => cases rv; exact big _ rfl
  | dcT n r e0 k q => cases rv; exact big _ rfl
theorem ra_reprD {K : Fg} : RAOk K (rReprD K) fReprD := by
  intro H W vs ds z Q hq hz k fr
  unfold fReprD at hz
  split at hz
  · cases hq with
    | cons h1 h2 =>
      cases h2
      split at hz
      · rename_i ho
        cases hz
        exact ⟨_, _, W, rfl, h1, ho, k _ H (Same.refl H) (.str _)⟩
      · cases hz
  · cases hz
variable {e : Expr} {es : List Expr} {da : DA} {p pos : Pos}
theorem de_reprD (hgd : X.A.guards = some []) (hu : X.A.units + 64 < cLine) (hm : X.mg "repr" = none) (ha : DAx X EX (e :: es) da) (hg : Gl X "repr" := by rfl) (he : starEach (e :: es) X.env = (false, eval e X.env) :: starEach es X.env := by rfl) (hpl : (backTo pos (starEach es X.env)).any (·.1) = false := by rfl) :
    DEx X EX (.Call (.Name "repr" p) (e :: es) [] pos) (dCall fReprD da) := call_ok ra_reprD ha fun t q => pe_callB (call_reprDD hgd hu) hg hm PyProof.Rows.boot_repr q (he := he) (hpl := hpl)
end
end DD

/-! enumerate of a tuple -/
namespace DD
open PySem PySem.Sem
open AutoSeq1 (wpAny_loadPart')
section
variable {prog : Program} {w : World} {A : Around} {E : Value → Shared → Prop}
/-- one step of the iterator at e over the tuple at l -/
theorem en_next {hp : Heap} {g : Array GenState} {dr : Drawn} {tk : Nat} {os : OsState} {e it l : Addr} {i : Nat} {xs : Array Value} {x old : Value} {Q : Value → Shared → Prop} (he : IsEnum hp e it i old) (hi : hp.IsTupleIter it l i) (hl : hp.IsTuple l xs) (hx : xs[i]? = some x) (ne : e ≠ it)
    (go : ∀ h', IsEnumOut h' e it ((i : Int) + 1) x hp.objs.size → h'.IsTupleIter it l (i + 1) → h'.get? hp.objs.size = some { cls := .type "tuple", data := .seq #[.int i tk, x] } → h'.objs.size = hp.objs.size + 1 →
      (∀ b o, b ≠ e → b ≠ it → hp.get? b = some o → h'.get? b = some o) → Q (.ref hp.objs.size) ⟨h', g, dr, tk + 1, os⟩) :
    wpAny (model prog w) A (Builtin.«enumerate.__next__» ⟨[.ref e], []⟩) (fun fin s' => ∃ v, fin = .done (.ret v) ∧ Q v s') E ⟨hp, g, dr, tk, os⟩ := by
  change wpAny _ _ (field (.ref e) 2 >>= _) _ _ _
  refine wpAny_bind (wpAny_field he rfl (x := .ref it) rfl (wpAny_bind (RZ.nextOf_tuple_item hi hl hx fun a1 i1 (b1 : Heap.SameBut it hp a1) => ?_)))
  have e1 : IsEnum a1 e it i old := (b1.2 e ne).trans he
  change wpAny _ _ (field (.ref e) 3 >>= _) _ _ ⟨a1, g, dr, tk, os⟩
  refine wpAny_bind (wpAny_field e1 rfl (x := rawInt i) rfl ?_)
  change wpAny _ _ (field (.ref e) 4 >>= _) _ _ ⟨a1, g, dr, tk, os⟩
  refine wpAny_bind (wpAny_field e1 rfl (x := .none) rfl ?_)
  change wpAny _ _ (mkInt i >>= _) _ _ ⟨a1, g, dr, tk, os⟩
  refine wpAny_bind (wpAny_mkInt ?_)
  change wpAny _ _ (setField (.ref e) 3 (rawInt ((i : Int) + 1)) >>= _) _ _ ⟨a1, g, dr, tk + 1, os⟩
  refine wpAny_bind (wpAny_setField_rec e1 (by simp) fun a2 (e2 : IsEnum a2 e it ((i : Int) + 1) old) (b2 : Heap.SameBut e a1 a2) => ?_)
  change wpAny _ _ (setField (.ref e) 4 .none >>= _) _ _ ⟨a2, g, dr, tk + 1, os⟩
  refine wpAny_bind (wpAny_setField_rec e2 (by simp) fun a3 (e3 : IsEnum a3 e it ((i : Int) + 1) old) (b3 : Heap.SameBut e a2 a3) => ?_)
  change wpAny _ _ (newTuple [.int i tk, x] >>= _) _ _ ⟨a3, g, dr, tk + 1, os⟩
  refine wpAny_bind (wpAny_newTuple ?_)
  have z3 : a3.objs.size = hp.objs.size := by rw [b3.1, b2.1, b1.1]
  have lt : e < hp.objs.size := Heap.lt_size he
  obtain ⟨a4, q4⟩ : ∃ a4, a4 = a3.push { cls := .type "tuple", data := .seq #[.int i tk, x] } := ⟨_, rfl⟩
  have e4 : IsEnum a4 e it ((i : Int) + 1) old := by rw [q4]; exact Heap.get?_push_of_some _ e3
  have t4 : a4.get? hp.objs.size = some { cls := .type "tuple", data := .seq #[.int i tk, x] } := by rw [q4, ← z3]; exact Heap.get?_push_size _ rfl
  have z4 : a4.objs.size = hp.objs.size + 1 := by rw [q4, Heap.size_push, z3]
  have k4 : ∀ b o, b ≠ e → b ≠ it → hp.get? b = some o → a4.get? b = some o := fun b o n1 n2 q => by
    rw [q4]
    exact Heap.get?_push_of_some _ (b3.extBut b o n1 (b2.extBut b o n1 (b1.extBut b o n2 q)))
  have i4 : a4.IsTupleIter it l (i + 1) := by
    obtain ⟨o, ho, r⟩ := (i1.extBut b2.extBut ne.symm).extBut b3.extBut ne.symm
    rw [q4]
    exact ⟨o, Heap.get?_push_of_some _ ho, r⟩
  rw [← q4, z3]
  change wpAny _ _ (Builtin.SmallTypes.ownedTupleIsFree (.ref e) >>= _) _ _ ⟨a4, g, dr, tk + 1, os⟩
  clear q4 z3 e3 b3 e2 b2 e1 b1 i1 a3 a2 a1
  refine wpAny_bind ?_
  unfold Builtin.SmallTypes.ownedTupleIsFree
  refine wpAny_bind (wpAny_field e4 rfl (x := .none) rfl (wpAny_pure ?_))
  simp only [if_true]
  refine wpAny_bind (wpAny_rule (wpAny_bind (wpAny_field e4 rfl (x := old) rfl (wpAny_bind (wpAny_setField_rec e4 (by simp) fun a5 (e5 : IsEnum a5 e it ((i : Int) + 1) x) (b5 : Heap.SameBut e a4 a5) => ?_)))))
  change wpAny _ _ (Builtin.SmallTypes.ownedTupleHandOut (.ref e) (.ref hp.objs.size) >>= _) _ _ ⟨a5, g, dr, tk + 1, os⟩
  refine wpAny_bind ?_
  unfold Builtin.SmallTypes.ownedTupleHandOut
  refine wpAny_bind (wpAny_setField_rec e5 (by simp) fun a6 (e6 : IsEnumOut a6 e it ((i : Int) + 1) x hp.objs.size) (b6 : Heap.SameBut e a5 a6) => wpAny_setField_rec e6 (by simp) fun a7 (e7 : IsEnumOut a7 e it ((i : Int) + 1) x hp.objs.size) (b7 : Heap.SameBut e a6 a7) => ?_)
  have up : ∀ b o, b ≠ e → a4.get? b = some o → a7.get? b = some o := fun b o n q => b7.extBut b o n (b6.extBut b o n (b5.extBut b o n q))
  refine wpAny_bind (wpAny_letGo (wpAny_pure ⟨_, rfl, go a7 e7 ?_ (up _ _ (Nat.ne_of_gt lt) t4) (by rw [b7.1, b6.1, b5.1, z4]) fun b o n1 n2 q => up b o n1 (k4 b o n1 n2 q)⟩))
  exact ((i4.extBut b5.extBut ne.symm).extBut b6.extBut ne.symm).extBut b7.extBut ne.symm
theorem en_item {s : Shared} {e it l : Addr} {i : Nat} {xs : Array Value} {x old : Value} {Q : Option Value → Shared → Prop} (he : IsEnum s.heap e it i old) (hi : s.heap.IsTupleIter it l i) (hl : s.heap.IsTuple l xs) (hx : xs[i]? = some x) (ne : e ≠ it)
    (go : ∀ h', IsEnumOut h' e it ((i : Int) + 1) x s.heap.objs.size → h'.IsTupleIter it l (i + 1) → h'.get? s.heap.objs.size = some { cls := .type "tuple", data := .seq #[.int i s.toks, x] } → h'.objs.size = s.heap.objs.size + 1 →
      (∀ b o, b ≠ e → b ≠ it → s.heap.get? b = some o → h'.get? b = some o) → Q (some (.ref s.heap.objs.size)) { s with heap := h', toks := s.toks + 1 }) : wpAny (model prog w) A (pyNext (.ref e)) Q E s := by
  have ty : s.TypeIs (.ref e) "enumerate" := ⟨_, he, rfl⟩
  obtain ⟨hp, g, dr, tk, os⟩ := s
  unfold pyNext
  refine wpAny_bind (wpAny_attempt (wpAny_callSpecial?_slot (name := Str.ofString "__next__") ty F.slot_enumerate_next (wpAny_call_entry F.slot_enumerate_next ty F.entry_enumerate_next ?_ (F.args_enumerate_next_1 _))))
  exact en_next he hi hl hx ne fun h' a b c d k => wpAny_pure (go h' a b c d k)
theorem en_end {s : Shared} {e it l : Addr} {i : Nat} {xs : Array Value} {old : Value} {Q : Option Value → Shared → Prop} (hh : A.handled = none) (he : IsEnum s.heap e it i old) (hi : s.heap.IsTupleIter it l i) (hl : s.heap.IsTuple l xs) (hx : xs[i]? = none)
    (go : ∀ h', Heap.ExtBut it s.heap h' → Q none { s with heap := h' }) : wpAny (model prog w) A (pyNext (.ref e)) Q E s := by
  have ty : s.TypeIs (.ref e) "enumerate" := ⟨_, he, rfl⟩
  unfold pyNext
  refine wpAny_bind (wpAny_attempt (wpAny_callSpecial?_slot (name := Str.ofString "__next__") ty F.slot_enumerate_next (wpAny_call_entry F.slot_enumerate_next ty F.entry_enumerate_next ?_ (F.args_enumerate_next_1 _))))
  change wpAny _ _ (field (.ref e) 2 >>= _) _ _ _
  refine wpAny_bind (wpAny_field he rfl (x := .ref it) rfl (wpAny_bind (RZ.nextOf_tuple_end hh hi hl hx fun h' x eb ⟨o, ho, hc⟩ => ?_)))
  exact wpAny_bind (wpAny_isInstance (T := "StopIteration") (b := true) ⟨o, ho, hc⟩ isSubtype_stop (wpAny_pure (go _ eb)))
end
theorem en_made (l : Addr) (xs : Array Value) (n : Nat) (dd : Option Addr) (sl : Array (Option Value)) :
    Meets (Builtin.«enumerate.__new__» ⟨[.type "enumerate", .ref l], []⟩) (fun _ R s => s.heap.get? l = some { cls := .type "tuple", dict := dd, data := .seq xs n, slots := sl } ∧
      R (.ok (.ret (.ref (s.heap.push { cls := .type "tuple_iterator", data := .fields #[.ref l, .int 0 0] }).objs.size)))
        { s with heap := (s.heap.push { cls := .type "tuple_iterator", data := .fields #[.ref l, .int 0 0] }).push { cls := .type "enumerate", data := .fields #[.none, .bool false, .ref s.heap.objs.size, rawInt 0, .none, .none] } }) :=
  .of_wp fun prog w A R s h => by
    obtain ⟨hp, g, d, tk, os⟩ := s
    obtain ⟨at_, h⟩ := h
    have sub := sub_enumerate
    have T : Heap.IsTuple (Shared.heap ⟨hp, g, d, tk, os⟩) l xs := ⟨_, at_, rfl, n, rfl⟩
    wp_walk using wpAny_loadPart' at_
    refine wpAny_stack_any fun st => wpAny_pure ?_
    split
    · rename_i c _ _ _ _ _
      cases (c == Value.type "enumerate")
      · wp_walk using wpAny_loadPart' at_, wpAny_pyIter_tuple T
        exact ⟨_, rfl, h⟩
      · wp_walk using wpAny_loadPart' at_, wpAny_pyIter_tuple T
        exact ⟨_, rfl, h⟩
    · wp_walk using wpAny_loadPart' at_, wpAny_pyIter_tuple T
      exact ⟨_, rfl, h⟩
end DD

/-! for i, x in enumerate(..) over data -/
namespace DD
open PySem L2 PyProof.Rows
/-- the tuple at a, each item in a new pair -/
def IteT (K : Fg) (a : Addr) : It :=
  ⟨fun i H => ∃ (xs : List V) (x : V), SqT K H a xs ∧ xs[i]? = some x, fun i H v H' => ∃ p x, v = .ref p ∧ H p = none ∧ H' = upd H p (.tup [.int (i : Nat), x]) ∧ ∀ xs, SqT K H a xs → xs[i]? = some x, fun i H => ∃ xs : List V, SqT K H a xs ∧ xs.length ≤ i⟩
theorem turn_en {P : Program} {w : World} {K : Fg} {elts : List Expr} {kk : Nat} {tpos : Pos} (a e it : Addr) : Turn P w K (.Tuple elts kk tpos) (IteT K a) [e, it] e (fun i h => (∃ old, IsEnum h e it ((i : Nat) : Int) old) ∧ h.IsTupleIter it a i ∧ e ≠ it) where
  mem := by simp
  obj := by
    rintro i h ⟨⟨old, he⟩, ⟨o, ho, hc, hd⟩, ne⟩ b hb
    rcases List.mem_cons.mp hb with rfl | hb
    · exact ⟨_, he, fun v q => nomatch q⟩
    · rw [List.mem_singleton] at hb
      subst hb
      exact ⟨o, ho, fun v q => by rw [hd] at q; cases q⟩
  keep := by
    rintro i h h' ⟨⟨old, he⟩, hi, ne⟩ k
    exact ⟨⟨old, k e (by simp) _ he⟩, hi.at fun o q => k it (by simp) o q, ne⟩
  item := by
    rintro X rfl rfl rfl hc i pins s σ H E J hf ⟨⟨old, he⟩, hi, ne⟩ ⟨xs, x, hq, hx⟩
    obtain ⟨us, rv, pl, _⟩ := J.tuple hq
    obtain ⟨u, hu, ru⟩ := rv.get hx
    have le : e < s.heap.objs.size := Heap.lt_size he
    have li : it < s.heap.objs.size := by
      obtain ⟨_, q, _⟩ := id hi
      exact Heap.lt_size q
    refine en_item he hi (show s.heap.IsTuple a us.toArray from pl) (x := u) (by simpa using hu) ne fun g1 out i1 t1 sz k1 => ⟨_, rfl, wpAny_letOwnedTupleGo_enum (s := { s with heap := g1, toks := s.toks + 1 }) out fun g2 e2 sb => ?_⟩
    have t2 : g2.get? s.heap.objs.size = some { cls := .type "tuple", data := .seq #[.int i s.toks, u] } := (sb.2 _ (Nat.ne_of_gt le)).trans t1
    have new : ObjOk X.prog X.w (upd H s.heap.objs.size (.tup [.int (i : Nat), x])) g2 s.heap.objs.size (.tup [.int (i : Nat), x]) := ⟨by show 2 ≤ sizeLine; rw [sizeLine_eq]; decide, [.int i s.toks, u], .cons ⟨_, rfl⟩ (.cons ru .nil), ⟨_, t2, rfl, _, rfl⟩⟩
    have J1 : Inv X pins σ (upd H s.heap.objs.size (.tup [.int (i : Nat), x])) { s with heap := g2, toks := s.toks + 1 } :=
      J.turnedNew (ch := [e, it]) (fun b ob hb q => (sb.2 b fun z => hb (by simp [z])).trans (k1 b ob (fun z => hb (by simp [z])) (fun z => hb (by simp [z])) q)) hf (Nat.le_refl _) new
    refine ⟨.ref s.heap.objs.size, _, J1, rfl, ⟨_, x, rfl, J.hok.fresh (Nat.le_refl _), rfl, fun ys hy => by rw [J.tuple_inj hy hq]; exact hx⟩, ⟨⟨u, ?_⟩, i1.at fun o q => (sb.2 it ne.symm).trans q, ne⟩, fun b hb => ?_⟩
    · rw [show ((i + 1 : Nat) : Int) = (i : Int) + 1 by omega]
      exact e2
    · have lb : b < s.heap.objs.size := by
        rcases List.mem_cons.mp hb with rfl | hb
        · exact le
        · rw [List.mem_singleton] at hb
          subst hb
          exact li
      rw [upd_ne (Nat.ne_of_lt lb)]
      exact (hf b hb).1
  done := by
    rintro X rfl rfl rfl hc i pins s σ H E J hf ⟨⟨old, he⟩, hi, ne⟩ ⟨xs, hq, hx⟩
    obtain ⟨us, rv, pl, _⟩ := J.tuple hq
    obtain ⟨f0, f1, f2, f3, f4, f5⟩ := hf it (by simp)
    have lv := rv.length
    exact en_end (J.ok.hd hc) he hi (show s.heap.IsTuple a us.toArray from pl) (by simp; omega) fun h' eb => ⟨rfl, J.turned (t' := s.toks) (fun b o hb q => eb b o hb q) f0 f1 f3 f4 f5⟩
  self := by
    rintro A i s Q E ⟨⟨_, he⟩, _⟩ h
    exact wpAny_pyIter_enum he h
def iEnD (K : Fg) (ta : TA) : TI := fun σ H R => ta σ H fun vs H1 => ∃ a, vs = [.ref a] ∧ (((∃ xs, SqL K H1 a xs) ∧ R (Ite K a) H1) ∨ ((∃ xs, SqT K H1 a xs) ∧ R (IteT K a) H1))
theorem pi_en {X : Cx} {e : Expr} {ta : TA} {p pos tpos : Pos} {elts : List Expr} {kk : Nat} (gl : Gl X "enumerate") (mm : X.mg "enumerate" = none) (pa : PA X [e] ta) (hs : starEach [e] X.env = [(false, eval e X.env)] := by rfl) :
    PI X (.Tuple elts kk tpos) (.Call (.Name "enumerate" p) [e] [] pos) (iEnD X.K ta) := by
  constructor
  intro pins s σ H R J h
  refine Call_ (ld_blt J gl mm boot_enumerate (PyProof.Rows.callWith_type1 (thn (pa.run pos pins s σ H _ J h) fun us s1 ⟨vs, H1, J1, rv, a, ev, w⟩ => ?_) hs rfl))
  subst ev
  cases rv with
  | cons r rr =>
    cases rr
    cases r
    have fresh : ∀ b ∈ [s1.heap.objs.size + 1, s1.heap.objs.size], s1.heap.objs.size ≤ b := fun b hb => by
      rcases List.mem_cons.mp hb with rfl | hb
      · exact Nat.le_succ _
      · rw [List.mem_singleton] at hb
        subst hb
        exact Nat.le_refl _
    rcases w with ⟨⟨xs, hq⟩, w⟩ | ⟨⟨xs, hq⟩, w⟩
    · obtain ⟨us, rv, pl, _⟩ := J1.list hq
      refine call_enumerate_list pl.isList fun g he hi sz k => wpAny_pyIter_enum he ?_
      exact ⟨s1.heap.objs.size + 1, [s1.heap.objs.size + 1, s1.heap.objs.size], _, _, H1, rfl, J1.kept (t' := s1.toks) k, turn_enum a (s1.heap.objs.size + 1) s1.heap.objs.size, ⟨⟨.none, he⟩, hi, Nat.succ_ne_self _⟩, fun b hb => J1.fpOk (fresh b hb) (J1.hok.fresh (fresh b hb)), w⟩
    · obtain ⟨us, rv, ⟨⟨c, dct, dt, sl⟩, ho, hc, n, hd⟩, _⟩ := J1.tuple hq
      replace hc : c = .type "tuple" := hc
      replace hd : dt = .seq us.toArray n := hd
      subst hc hd
      refine callType_new F.called_enumerate (by decide) (F.typeCall_enumerate_1 _) (F.newCall_enumerate_1 _) (fun obj => F.args_object_init_2 obj _) F.entry_enumerate_new (en_made a us.toArray n dct sl) ⟨ho, ?_⟩
      have z1 : (s1.heap.push { cls := .type "tuple_iterator", data := .fields #[.ref a, .int 0 0] }).objs.size = s1.heap.objs.size + 1 := Heap.size_push ..
      change _ ∧ _
      rw [z1]
      have he : IsEnum ((s1.heap.push { cls := .type "tuple_iterator", data := .fields #[.ref a, .int 0 0] }).push { cls := .type "enumerate", data := .fields #[.none, .bool false, .ref s1.heap.objs.size, rawInt 0, .none, .none] }) (s1.heap.objs.size + 1) s1.heap.objs.size 0 .none := by
        have q := Heap.get?_push_size (s1.heap.push { cls := .type "tuple_iterator", data := .fields #[.ref a, .int 0 0] }) (o := { cls := .type "enumerate", data := .fields #[.none, .bool false, .ref s1.heap.objs.size, rawInt 0, .none, .none] }) rfl
        rw [z1] at q
        exact q
      refine ⟨⟨_, he, rfl⟩, wpAny_pyIter_enum he ?_⟩
      have k : ∀ b o, s1.heap.get? b = some o → ((s1.heap.push { cls := .type "tuple_iterator", data := .fields #[.ref a, .int 0 0] }).push { cls := .type "enumerate", data := .fields #[.none, .bool false, .ref s1.heap.objs.size, rawInt 0, .none, .none] }).get? b = some o :=
        fun b o q => Heap.get?_push_of_some _ (Heap.get?_push_of_some _ q)
      exact ⟨s1.heap.objs.size + 1, [s1.heap.objs.size + 1, s1.heap.objs.size], _, _, H1, rfl, J1.kept (t' := s1.toks) k, turn_en a (s1.heap.objs.size + 1) s1.heap.objs.size, ⟨⟨.none, he⟩, ⟨_, Heap.get?_push_of_some _ (Heap.get?_push_size _ rfl), rfl, rfl⟩, Nat.succ_ne_self _⟩, fun b hb => J1.fpOk (fresh b hb) (J1.hok.fresh (fresh b hb)), w⟩
/-! over data -/
def enumD (ds : List PyData) : List PyData := (List.range ds.length).map fun i => .tuple [.int (i : Nat), (ds[i]?).getD .none]
theorem enumD_get {ds : List PyData} {j : Nat} {d : PyData} (h : (enumD ds)[j]? = some d) : ∃ x, ds[j]? = some x ∧ d = .tuple [.int (j : Nat), x] := by
  unfold enumD at h
  rw [List.getElem?_map] at h
  cases e : (List.range ds.length)[j]? with
  | none => rw [e] at h; cases h
  | some i =>
    rw [e] at h
    obtain ⟨h1, h2⟩ := List.getElem?_eq_some_iff.mp e
    rw [List.getElem_range] at h2
    subst h2
    rw [List.length_range] at h1
    cases h
    exact ⟨ds[j], List.getElem?_eq_getElem h1, by simp only [List.getElem?_eq_getElem h1, Option.getD_some]⟩
theorem enumD_length (ds : List PyData) : (enumD ds).length = ds.length := by simp [enumD]
section
variable {X : Cx} {EX : XK}
theorem it_enL {K : Fg} {W : List Addr} {H : Hp} {a : Addr} {ds : List PyData} (h : Dw K H W (.ref a) (.list ds)) : ItOk K (Ite K a) W H (enumD ds) := by
  refine ⟨fun j W2 H2 d st fr hj => ?_, fun j W2 H2 st hj => ?_⟩
  · obtain ⟨x, hx, rfl⟩ := enumD_get hj
    obtain ⟨xs, h1, q⟩ := (st.dw h).sqL
    obtain ⟨v, hv, hd⟩ := q.get hx
    refine ⟨⟨xs, v, h1, hv⟩, ?_⟩
    rintro y H3 ⟨p, u, rfl, hp, rfl, all⟩
    have e := all xs h1
    rw [hv] at e
    cases e
    exact ⟨same_upd hp, Dw.newTup hp (fr p hp) (.cons (.int _) (.cons hd .nil))⟩
  · obtain ⟨xs, h1, q⟩ := (st.dw h).sqL
    rw [enumD_length] at hj
    exact ⟨xs, h1, by rw [q.length]; exact hj⟩
theorem it_enT {K : Fg} {W : List Addr} {H : Hp} {a : Addr} {ds : List PyData} (h : Dw K H W (.ref a) (.tuple ds)) : ItOk K (IteT K a) W H (enumD ds) := by
  refine ⟨fun j W2 H2 d st fr hj => ?_, fun j W2 H2 st hj => ?_⟩
  · obtain ⟨x, hx, rfl⟩ := enumD_get hj
    obtain ⟨xs, h1, q⟩ := (st.dw h).sqT
    obtain ⟨v, hv, hd⟩ := q.get hx
    refine ⟨⟨xs, v, h1, hv⟩, ?_⟩
    rintro y H3 ⟨p, u, rfl, hp, rfl, all⟩
    have e := all xs h1
    rw [hv] at e
    cases e
    exact ⟨same_upd hp, Dw.newTup hp (fr p hp) (.cons (.int _) (.cons hd .nil))⟩
  · obtain ⟨xs, h1, q⟩ := (st.dw h).sqT
    rw [enumD_length] at hj
    exact ⟨xs, h1, by rw [q.length]; exact hj⟩
def dEnum (a : DE) : DI := fun ρ R Er => a ρ (fun d ρ1 => match d with | .list ds => R (enumD ds) ρ1 | .tuple ds => R (enumD ds) ρ1 | _ => False) Er
theorem di_enum {e : Expr} {da : DE} {p pos tpos : Pos} {elts : List Expr} {kk : Nat} (gl : Gl X "enumerate") (mm : X.mg "enumerate" = none) (ha : DEx X EX e da) (hs : starEach [e] X.env = [(false, eval e X.env)] := by rfl) (hs2 : starEach [e] X.env = (false, eval e X.env) :: starEach [] X.env := by rfl) :
    DIx X EX (.Tuple elts kk tpos) (.Call (.Name "enumerate" p) [e] [] pos) (dEnum da) := by
  obtain ⟨t, pa, q⟩ := ha.ex
  refine ⟨_, pi_en gl mm (pa_cons pa pa_nil hs2) hs, fun s H0 W0 W σ ρ H R Er Q S eo hd k => ?_⟩
  refine q s H0 W0 W σ ρ H _ Er _ S eo hd fun v d W1 ρ1 H1 hd1 s1 e1 S1 w1 => ?_
  cases d with
  | list ds =>
    obtain ⟨a, rfl⟩ := w1.lstV
    obtain ⟨xs, h1, _⟩ := w1.sqL
    exact ⟨a, rfl, .inl ⟨⟨xs, h1⟩, k _ _ W1 ρ1 H1 hd1 s1 e1 S1 (it_enL w1)⟩⟩
  | tuple ds =>
    obtain ⟨a, rfl⟩ := w1.tupV
    obtain ⟨xs, h1, _⟩ := w1.sqT
    exact ⟨a, rfl, .inr ⟨⟨xs, h1⟩, k _ _ W1 ρ1 H1 hd1 s1 e1 S1 (it_enT w1)⟩⟩
  | _ => exact hd1.elim
end
end DD

/-! list.index, in, sorted: of ints -/
namespace DD
open PySem L2
theorem ints_dw {K : Fg} {H : Hp} {W : List Addr} : ∀ {xs : List V} {ns : List Int}, DwA K H W xs (ns.map .int) → xs = ns.map V.int
  | _, [], h => by cases h; rfl
  | _, n :: ns, h => by
    cases h with
    | cons a b =>
      cases a
      rw [ints_dw b]
      rfl
theorem flat_ints (ns : List Int) : (ns.map V.int).all flatV = true := by
  rw [List.all_eq_true]
  intro x hx
  obtain ⟨n, _, rfl⟩ := List.mem_map.mp hx
  rfl
section
variable {X : Cx} {EX : XK} {o e a b : Expr} {dx dy da db : DE} {pos p apos : Pos}
/-- o.index(e), ints alone -/
def dIndex (a b : DE) : DE := fun ρ R Er => a ρ (fun d ρ1 => ∃ ns : List Int, d = .list (ns.map .int) ∧ b ρ1 (fun y ρ2 => ∃ (i : Int) (j : Nat), y = .int i ∧ ns[j]? = some i ∧ (∀ m, m < j → ns[m]? ≠ some i) ∧ R (.int (j : Nat)) ρ2) Er) Er
theorem de_index (ha : DEx X EX o da) (hb : DEx X EX e db) (mk : ∀ (to te : TE), PE X o to → PE X e te → PE X (.Call (.Attribute o "index" apos) [e] [] pos) (tBM X.K "list" (rIndex X.K) to (tCons te tNil))) :
    DEx X EX (.Call (.Attribute o "index" apos) [e] [] pos) (dIndex da db) := by
  obtain ⟨ta, pa, qa⟩ := ha.ex
  obtain ⟨tb, pb, qb⟩ := hb.ex
  refine ⟨_, mk ta tb pa pb, fun s H0 W0 W σ ρ H R Er Q S eo hd k => ?_⟩
  refine qa s H0 W0 W σ ρ H _ Er _ S eo hd fun v d W1 ρ1 H1 hd1 s1 e1 S1 w1 => ?_
  obtain ⟨ns, rfl, hd1⟩ := hd1
  obtain ⟨a, rfl⟩ := w1.lstV
  obtain ⟨xs0, h0, _⟩ := w1.sqL
  refine ⟨.inl ⟨rfl, xs0, h0⟩, qb s H0 W0 W1 σ ρ1 H1 _ Er _ S1 eo hd1 fun u y W2 ρ2 H2 hd2 s2 e2 S2 w2 => ?_⟩
  obtain ⟨i, j, rfl, hj, first, hR⟩ := hd2
  cases w2
  obtain ⟨xs, h1, q⟩ := (w1.to e2 s2).sqL
  have ex := ints_dw q
  subst ex
  refine ⟨a, _, .int i, j, .int i, rfl, rfl, h1, rfl, flat_ints ns, by rw [List.getElem?_map, hj]; rfl, by simp [eqV], fun m z lt hz => ?_, k _ _ W2 ρ2 H2 hR (sub_tr s2 s1) (ext_tr e1 e2 s1) S2 (.int _)⟩
  rw [List.getElem?_map] at hz
  cases e : ns[m]? with
  | none => rw [e] at hz; cases hz
  | some n =>
    rw [e] at hz
    cases hz
    have ne : n ≠ i := fun z => first m lt (by rw [e, z])
    simpa [eqV] using ne
/-- x in a list or tuple of ints -/
def fIn : D2
  | .int i, .list ds => if (ds.all fun d => match d with | .int _ => true | _ => false) = true then some (.bool (ds.any fun d => match d with | .int j => decide (j = i) | _ => false)) else none
  | .int i, .tuple ds => if (ds.all fun d => match d with | .int _ => true | _ => false) = true then some (.bool (ds.any fun d => match d with | .int j => decide (j = i) | _ => false)) else none
  | _, _ => none
theorem all_ints : ∀ {ds : List PyData}, (ds.all fun d => match d with | .int _ => true | _ => false) = true → ∃ ns : List Int, ds = ns.map .int
  | [], _ => ⟨[], rfl⟩
  | d :: r, h => by
    rw [List.all_cons, Bool.and_eq_true] at h
    obtain ⟨ns, e⟩ := all_ints h.2
    cases d with
    | int i => exact ⟨i :: ns, by rw [e]; rfl⟩
    | _ => cases h.1
theorem any_ints (i : Int) (ns : List Int) : ((ns.map PyData.int).any fun d => match d with | .int j => decide (j = i) | _ => false) = inV (.int i) (ns.map V.int) := by
  unfold inV
  rw [List.any_map, List.any_map]
  congr 1
theorem r2_in {K : Fg} : R2Ok K (rIn K false) fIn := by
  intro H W x y d e z Q hx hy hz k fr
  unfold fIn at hz
  split at hz
  · split at hz
    · rename_i i ds h
      cases hz
      cases hx
      obtain ⟨ns, rfl⟩ := all_ints h
      obtain ⟨p, rfl⟩ := hy.lstV
      obtain ⟨xs, h1, q⟩ := hy.sqL
      have ex := ints_dw q
      subst ex
      refine ⟨p, _, rfl, .inl h1, rfl, flat_ints ns, ?_⟩
      have := k (.bl (inV (.int i) (ns.map V.int))) H (Same.refl H) fr (by rw [any_ints]; exact .bl _)
      simpa using this
    · cases hz
  · split at hz
    · rename_i i ds h
      cases hz
      cases hx
      obtain ⟨ns, rfl⟩ := all_ints h
      obtain ⟨p, rfl⟩ := hy.tupV
      obtain ⟨xs, h1, q⟩ := hy.sqT
      have ex := ints_dw q
      subst ex
      refine ⟨p, _, rfl, .inr h1, rfl, flat_ints ns, ?_⟩
      have := k (.bl (inV (.int i) (ns.map V.int))) H (Same.refl H) fr (by rw [any_ints]; exact .bl _)
      simpa using this
    · cases hz
  · cases hz
theorem de_in (ha : DEx X EX a da) (hb : DEx X EX b db) (nm : behindInMarks .In b = false := by with_unfolding_all rfl) : DEx X EX (.Compare a [.In] [b] pos) (dOp fIn da db) := op_ok r2_in ha hb fun _ _ p q => pe_cmpR op_in_seq p q nm
theorem dt_in (ha : DEx X EX a da) (hb : DEx X EX b db) (nm : behindInMarks .In b = false := by with_unfolding_all rfl) : DTx X EX (.Compare a [.In] [b] pos) (dTOp fIn da db) := top_ok r2_in ha hb fun _ _ p q => pt_cmpR op_in_seq p q nm
/-- sorted(list of ints): read by what it must be -/
def dSorted (a : DE) : DE := fun ρ R Er => a ρ (fun d ρ1 => ∃ ns : List Int, d = .list (ns.map .int) ∧ ∀ ms : List Int, ms.Perm ns → ms.Pairwise (· ≤ ·) → R (.list (ms.map .int)) ρ1) Er
theorem de_sorted (ha : DEx X EX e da) (hm : X.mg "sorted" = none) (mk : ∀ te, PE X e te → PE X (.Call (.Name "sorted" p) [e] [] pos) (tCB (rSortedI X.K) (tCons te tNil))) : DEx X EX (.Call (.Name "sorted" p) [e] [] pos) (dSorted da) := by
  obtain ⟨ta, pa, qa⟩ := ha.ex
  refine ⟨_, mk ta pa, fun s H0 W0 W σ ρ H R Er Q S eo hd k => ?_⟩
  refine qa s H0 W0 W σ ρ H _ Er _ S eo hd fun v d W1 ρ1 H1 hd1 s1 e1 S1 w1 => ?_
  obtain ⟨ns, rfl, hR⟩ := hd1
  obtain ⟨a, rfl⟩ := w1.lstV
  obtain ⟨xs, h1, q⟩ := w1.sqL
  have ex := ints_dw q
  subst ex
  refine ⟨a, ns, rfl, h1, fun ms p pm so hp => ?_⟩
  have dw : DwA X.K H1 W1 (ms.map V.int) (ms.map .int) := by
    clear pm so
    induction ms with
    | nil => exact .nil
    | cons m r ih => exact .cons (.int m) ih
  exact k _ _ W1 ρ1 _ (hR ms pm so) s1 (e1.trans (Ext.same (same_upd hp))) (S1.alloc hp) (Dw.newLst hp (S1.fresh hp) dw)
end
end DD

/-! Defs that let nothing out, though they call such as may raise. -/
namespace DD
open PySem L2
open PyProof.Rows (envOfC)
theorem DBx.quiet {X : Cx} {EX : XK} {st : List Stmt} {dt : DS} (h : DBx X E0 st dt) : DBx X EX st (fun D ρ _ => dt D ρ noEr) := by
  obtain ⟨t, p, q⟩ := h.ex
  exact ⟨t, p, fun s H0 W0 W σ ρ H D Er E S eo hd k => q s H0 W0 W σ ρ H D noEr E S erOk_no hd k⟩
section
variable {P : Program} {w : World} {K : Fg} {mg : Str → Option Value} {base : Heap}
theorem fun_dZ {x qual : Str} {st : Stmt} {f : Addr} {fd : FuncData} {N ps : List Str} {k n : Nat} {fn : PF} (F : Fun K x qual st f fd) (S : FnScope N ps (defScope st)) (hn : ps.length = n)
    (dt : DS) (h : ∀ (cdv : Value) (A : Around) (outer : List Env) (s : Shared) (H : Hp) (E : XK), Room k (A.deeper (envOfC qual (defScope st) s.heap.objs.size f cdv)) → A.guards = some [] → DBx (CXn P w K mg base N qual st f cdv A outer s H E) E0 (defBody st) dt)
    (hd : ∀ ds R Er, ds.length = n → fn ds R Er → dt { nx := fun _ => R .none, rt := fun d _ => R d } (startD N.length ds) noEr) : FnG P w K mg base CX0 (k + 1) f fd ps (spD K n fn) :=
  fun_d0 F S hn (fun D ρ _ => dt D ρ noEr) (fun cdv A outer s H E hr hgd => (h cdv A outer s H E hr hgd).quiet) hd
theorem fun_sZ {x qual : Str} {st : Stmt} {f : Addr} {fd : FuncData} {N ps : List Str} {k n : Nat} {fn : PF} (F : Fun K x qual st f fd) (S : FnScope N ps (defScope st)) (hn : ps.length = n) (hN : 0 < N.length)
    (dt : DS) (h : ∀ (cdv : Value) (A : Around) (outer : List Env) (s : Shared) (H : Hp) (E : XK), Room k (A.deeper (envOfC qual (defScope st) s.heap.objs.size f cdv)) → A.guards = some [] → DBx (CXn P w K mg base N qual st f cdv A outer s H E) E0 (defBody st) dt)
    (hd : ∀ ds R Er, ds.length + 1 = n → fn ds R Er → dt { nx := fun _ => R .none, rt := fun d _ => R d } (startS N.length ds) noEr) : FnG P w K mg base CX0 (k + 1) f fd ps (spS K n fn) :=
  fun_s0 F S hn hN (fun D ρ _ => dt D ρ noEr) (fun cdv A outer s H E hr hgd => (h cdv A outer s H E hr hgd).quiet) hd
end
end DD

/-! Defs with a source that make lambdas: the tables are handed on. -/
namespace DD
open PySem L2 LamX
open PyProof.Rows (envOfC)
def InT (T : List (Addr × Str)) (b : Addr) : Prop := ∃ p ∈ T, p.1 = b
/-- of a source and data, T the tables that may change -/
def spST (K : Fg) (T : List (Addr × Str)) (n : Nat) (f : PF) : Sp := fun vs H Q E => vs.length = n ∧ ∃ (a : Addr) (vs' : List V) (W : List Addr) (ds : List PyData) (R : PyData → Prop) (uT : ∀ p ∈ T, ∀ q ∈ T, p.1 = q.1 → p.2 = q.2), vs = .ref a :: vs' ∧ Wok H W ∧ a ∈ W ∧ (∀ p ∈ T, p.1 ∈ W) ∧ SrcAt H a ∧ Tabs T H ∧ DwA K H W vs' ds ∧
  f ds R ⟨fun _ _ => False, T⟩ ∧ ∀ (v : V) (d : PyData) (H' : Hp), R d → (∀ b o, b ≠ a → ¬ InT T b → H b = some o → H' b = some o) → SrcAt H' a → Tabs T H' → Dw K H' W v d → Q v H'
section
variable {P : Program} {w : World} {K : Fg} {mg : Str → Option Value} {base : Heap}
theorem fun_sT {x qual : Str} {st : Stmt} {f : Addr} {fd : FuncData} {N ps : List Str} {k n : Nat} {T : List (Addr × Str)} {fn : PF} (F : Fun K x qual st f fd) (S : FnScope N ps (defScope st)) (hn : ps.length = n) (hN : 0 < N.length)
    {c : Addr} (hc : ∀ (oc : Value) (od : Option Addr) (kV doc pm : Value) (an : Option Addr) (cdv ct : Value) (osl : Array (Option Value)), K.lookup f = some ⟨oc, od, .func (PySem.W.fnOf x qual (defArgs st) (defBody st) (defScope st) .none kV doc pm an cdv ct), osl⟩ → cdv = .ref c)
    (dt : DS) (h : ∀ (cdv : Value) (A : Around) (outer : List Env) (s : Shared) (H : Hp) (E : XK), Room k (A.deeper (envOfC qual (defScope st) s.heap.objs.size f cdv)) → A.guards = some [] → cdv = .ref c → DBx (CXn P w K mg base N qual st f cdv A outer s H E) E0 (defBody st) dt)
    (hd : ∀ ds R, ds.length + 1 = n → fn ds R ⟨fun _ _ => False, T⟩ → dt { nx := fun _ => R .none, rt := fun d _ => R d } (startS N.length ds) ⟨fun _ _ => False, T⟩) : FnG P w K mg base CX0 (k + 1) f fd ps (spST K T n fn) := by
  obtain ⟨oc, od, kV, doc, pm, an, cdv, ct, osl, rfl, lk, hcd⟩ := F.ex
  refine fn_g lk hcd S (fun vs H Q E h => by rw [h.1, hn]) fun A outer s H vs Q E hr hgd hsp => ?_
  obtain ⟨t, p, q⟩ := (h cdv A outer s H E hr hgd (hc _ _ _ _ _ _ _ _ _ lk)).ex
  obtain ⟨hl, a, vs', W, ds, R, uT, rfl, hW, haW, hTW, hsrc, hT, hdw, hf, k1⟩ := hsp
  refine ⟨t, p.nox, ?_⟩
  have e0 : L2.start N (V.ref a :: vs') = some (V.ref a) :: (vs'.map some ++ List.replicate (N.length - 1 - vs'.length) none) := by
    unfold L2.start
    simp only [List.map_cons, List.cons_append, List.length_cons]
    congr 3
    omega
  have e1 : startS N.length ds = some .src :: startD (N.length - 1) ds := by
    unfold startS startD
    congr 3
    omega
  have S0 : SOk K H W ⟨some a, T, uT, none⟩ W (L2.start N (V.ref a :: vs')) (startS N.length ds) H := by
    rw [e0, e1]
    refine ⟨fun _ z => z, hW, fun _ z => .inl z, hW, fun _ _ h _ => h, fun b z => by cases z; exact ⟨haW, hW a haW, hsrc⟩, ⟨hT, fun r hr => ⟨hTW r hr, hW _ (hTW r hr)⟩⟩, fun i d h => ?_, fun i j v es fs h1 => ?_, ?_⟩
    · cases i with
      | zero => simp at h; subst h; exact ⟨_, rfl, a, rfl, rfl⟩
      | succ i => exact start_ok (s := ⟨some a, T, uT, none⟩) (W0 := W) (H0 := H) hdw i d (by simpa using h)
    · exfalso
      cases i with
      | zero => simp at h1
      | succ i =>
        rw [List.getElem?_cons_succ] at h1
        unfold startD at h1
        by_cases hl : i < ds.length
        · rw [List.getElem?_append_left (by simpa using hl), List.getElem?_map, List.getElem?_eq_getElem hl] at h1; cases h1
        · rw [List.getElem?_append_right (by simpa using hl), List.getElem?_replicate] at h1
          split at h1 <;> cases h1
    · refine ⟨by simp [startD, hdw.length], fun _ z => nomatch z⟩
  have hl' : ds.length + 1 = n := by rw [← hdw.length]; simpa using hl
  have out : ∀ {v : V} {d : PyData} {W' : List Addr} {σ' : St} {ρ' : Env'} {H' : Hp}, R d → SOk K H W ⟨some a, T, uT, none⟩ W' σ' ρ' H' → Dw K H' W' v d → Q v H' := fun {v d W' σ' ρ' H'} hR S' w' =>
    k1 v d H' hR (fun b o n1 n2 hb => S'.frame b o hb fun z => by
      rcases z with z | z
      · cases z; exact n1 rfl
      · exact n2 z) (S'.src a rfl).2.2 S'.tab.1 (w'.to (Ext.refl _ _) S'.sub)
  exact q _ H W W _ _ H _ ⟨fun _ _ => False, T⟩ _ S0 ⟨fun _ z => z, fun _ _ _ _ _ h => h.elim⟩ (hd ds R hl' hf) ⟨fun W' σ' ρ' H' h st S' => out h S' .non, fun W' σ' ρ' H' v d h S' w' => out h S' w', fun _ _ _ _ h => h.elim, fun _ _ _ _ h => h.elim⟩
end
/-- f(source, a, ..), T the tables that it may change -/
def dFnT (i : Nat) (T : List (Addr × Str)) (fn : PF) (a : DA) : DE := fun ρ R Er => ρ[i]? = some (some .src) ∧ (∀ p ∈ T, p ∈ Er.T) ∧ a ρ (fun ds ρ1 => fn ds (fun d => R d ρ1) ⟨fun _ _ => False, T⟩) Er
section
variable {X : Cx} {EX : XK} {j k n : Nat} {x : Str} {p pos : Pos} {es : List Expr} {da : DA} {fn : PF}
theorem de_callT {i : Nat} {y : Str} {py : Pos} {T : List (Addr × Str)} (c : Cal X.prog X.w X.K X.mg X.base k x (spST X.K T n fn)) (hr : Room j X.A) (hk : k ≤ j) (hgd : X.A.guards = some []) (hv : PE X (.Name y py) (tVar i)) (ha : DAx X EX es da) (hg : Gl X x := by rfl) (hdb : (x == ("__debug__" : Str)) = false := by decide)
    (he : starEach (.Name y py :: es) X.env = (false, eval (.Name y py) X.env) :: starEach es X.env := by rfl) (hpl : (backTo pos (starEach es X.env)).any (·.1) = false := by rfl) :
    DEx X EX (.Call (.Name x p) (.Name y py :: es) [] pos) (dFnT i T (fun ds R Er => ds.length + 1 = n ∧ fn ds R Er) da) := by
  obtain ⟨f, fd, ps, F, g, kp, b⟩ := c.ex
  obtain ⟨t, pa, q⟩ := ha.ex
  refine ⟨_, pe_callG (E := EX) F (hr.mono hk) hgd hg g kp b passE (pa_cons hv pa he) hdb he hpl, fun s H0 W0 W σ ρ H R Er Q S eo hd kk => ?_⟩
  obtain ⟨hi, hT, hd⟩ := hd
  obtain ⟨v0, hv0, a, rfl, hs⟩ := S.slot i _ hi
  refine ⟨_, hv0, ?_⟩
  refine q s H0 W0 W σ ρ H _ Er _ S eo hd fun vs ds W1 ρ1 H1 hd1 s1 e1 S1 w1 => ?_
  show spST X.K T n fn (.ref a :: vs ++ []) H1 Q EX
  rw [List.append_nil]
  obtain ⟨a1, a2, a3⟩ := S1.src a hs
  have inT : ∀ p ∈ T, p ∈ s.tab := fun p hp => eo.tabs p (hT p hp)
  have ain : ∀ z, InT T z → s.Has z := fun z ⟨p, hp, e⟩ => .inr ⟨p, inT p hp, e⟩
  have aH : s.Has a := .inl hs
  refine ⟨by simp [w1.length, hd1.1], a, vs, W1, ds, _, fun p hp q hq => s.fn p (inT p hp) q (inT q hq), rfl, S1.tr, S1.sub a a1, fun p hp => S1.sub _ (S1.tab.2 p (inT p hp)).1, a3, fun p hp => S1.tab.1 p (inT p hp), w1, hd1.2, fun v d H2 hR fr hs2 ht2 w2 => ?_⟩
  -- an object that is neither the source nor a table of T is as it was
  have tab2 : Tabs s.tab H2 := fun p hp => by
    by_cases z : InT T p.1
    · obtain ⟨r, hr, e⟩ := z
      have e2 := s.fn r (inT r hr) p hp e
      have := ht2 r hr
      rw [e, e2] at this
      exact this
    · obtain ⟨qs, h1, h2, h3⟩ := S1.tab.1 p hp
      have keep : ∀ b o, H1 b = some o → (∀ xs, o ≠ .lst xs) → ¬ InT T b → H2 b = some o := fun b o h n1 n2 => fr b o (fun e => by
        obtain ⟨x, y, q, _⟩ := a3
        rw [e, q] at h
        exact n1 _ (Option.some.inj h).symm) n2 h
      refine ⟨qs, keep _ _ h1 (fun xs z => by cases z) z, h2, fun pos cv hc => ?_⟩
      obtain ⟨c, g1, g2⟩ := h3 pos cv hc
      refine ⟨c, g1, keep _ _ g2 (fun xs z => by unfold LamX.CodeO at z; cases z) fun ⟨r, hr, e⟩ => ?_⟩
      obtain ⟨rs, z1, _⟩ := S1.tab.1 r (inT r hr)
      rw [e, g2] at z1
      exact codeO_ne rs (Option.some.inj z1)
  have S2 : SOk X.K H0 W0 s W1 σ ρ1 H2 := S1.grow (fun b o n h => fr b o (fun e => n (by rw [e]; exact aH)) (fun z => n (ain b z)) h) (fun b hb => by rw [hs] at hb; cases hb; exact hs2) tab2
  refine kk v d W1 ρ1 H2 hR s1 (e1.trans fun b o hn h => fr b o (fun e => S1.no' (hn.imp (fun n z => n (s1 _ z)) id) h (by rw [e]; exact aH)) (fun z => S1.no' (hn.imp (fun n z => n (s1 _ z)) id) h (ain b z)) h) S2 w2
end
end DD

/-! Defs with their code objects; defs of data that make lambdas; own errors' facts; the law's end with tables. -/
namespace DD
open PySem L2 LamX
open PyProof.Rows (envOfC)
/-- that the code object of the def at a is the one at c -/
def CodeAt (K : Fg) (x : Str) (st : Stmt) (a c : Addr) : Prop := ∀ (oc : Value) (od : Option Addr) (kV doc pm : Value) (an : Option Addr) (cdv ct : Value) (osl : Array (Option Value)),
  K.lookup a = some ⟨oc, od, .func (PySem.W.fnOf x x (defArgs st) (defBody st) (defScope st) .none kV doc pm an cdv ct), osl⟩ → cdv = .ref c
theorem codeAt_mk {K : Fg} {x : Str} {st : Stmt} {a c : Addr} {oc : Value} {od an : Option Addr} {osl : Array (Option Value)} {kV doc pm ct : Value}
    (l : K.lookup a = some ⟨oc, od, .func (PySem.W.fnOf x x (defArgs st) (defBody st) (defScope st) .none kV doc pm an (.ref c) ct), osl⟩) : CodeAt K x st a c := fun oc' od' kV' doc' pm' an' cdv' ct' osl' l' => by
  rw [l] at l'
  have e := congrArg (fun o : Obj => match o.data with | .func fd => fd.code | _ => .none) (Option.some.inj l')
  exact e.symm
/-- a def of the text, its code object at c -/
structure DefC (K : Fg) (mg : Str → Option Value) (x : Str) (st : Stmt) (ps : List Str) (c : Addr) : Prop where
  ex : ∃ (a : Addr) (fd : FuncData), Fun K x x st a fd ∧ mg x = some (.ref a) ∧ Binds K fd ps [] ∧ CodeAt K x st a c
section
variable {P : Program} {w : World} {K : Fg} {mg : Str → Option Value} {base : Heap} {x : Str} {st : Stmt} {ps : List Str} {c : Addr} {k : Nat} {sp : Sp}
theorem DefC.at (D : DefC K mg x st ps c) : DefAt K mg x st ps := by
  obtain ⟨a, fd, F, g, b, _⟩ := D.ex
  exact ⟨a, fd, F, g, b⟩
theorem DefC.cal (D : DefC K mg x st ps c) (h : ∀ a fd, Fun K x x st a fd → CodeAt K x st a c → FnG P w K mg base CX0 k a fd ps sp) : Cal P w K mg base k x sp := by
  obtain ⟨a, fd, F, g, b, hc⟩ := D.ex
  exact ⟨a, fd, ps, h a fd F hc, g, F.kp, b⟩
theorem defc_mk {h : Heap} (X : K.In h) (G : h.Ns mainGlobals mg) {f : Addr} {oc : Value} {od an : Option Addr} {osl : Array (Option Value)} {kV doc pm ct : Value}
    (a : PySem.W.nsIn K mainGlobals x = some (some (.ref f))) (l : K.lookup f = some ⟨oc, od, .func (PySem.W.fnOf x x (defArgs st) (defBody st) (defScope st) .none kV doc pm an (.ref c) ct), osl⟩)
    (cd : PySem.W.codeIn K (.ref c) x = true) (kp : PySem.W.keepIn K (.ref f) = true)
    (hb : ∀ (kV doc pm : Value) (an : Option Addr) (cdv ct : Value) (us : List Value), us.length = ps.length → bindArgs (PySem.W.fnOf x x (defArgs st) (defBody st) (defScope st) .none kV doc pm an cdv ct) ⟨us, []⟩ = pure (ps.zip us)) : DefC K mg x st ps c := by
  have F := fun_mk (st := st) l cd kp
  exact ⟨f, _, F, PySem.W.mg_of X G a, F.binds hb, codeAt_mk l⟩
/-- the law's def, its code object at c -/
theorem lawc_mk {h : Heap} (X : K.In h) (G : h.Ns mainGlobals mg) {y : Str} {f fa : Addr} {oc : Value} {od an : Option Addr} {osl : Array (Option Value)} {kV doc pm ct : Value} (hmg : mg x = some (.ref fa))
    (a : PySem.W.nsIn K mainGlobals x = some (some (.ref f))) (l : K.lookup f = some ⟨oc, od, .func (PySem.W.fnOf x x (defArgs st) (defBody st) (defScope st) .none kV doc pm an (.ref c) ct), osl⟩)
    (cd : PySem.W.codeIn K (.ref c) x = true) (kp : PySem.W.keepIn K (.ref f) = true)
    (hb : ∀ (kV doc pm : Value) (an : Option Addr) (cdv ct : Value) (s : Shared) (u : Value), BindsTo s (PySem.W.fnOf x x (defArgs st) (defBody st) (defScope st) .none kV doc pm an cdv ct) ⟨[u], []⟩ [(y, u)]) :
    ∃ fd : FuncData, Fun K x x st fa fd ∧ CodeAt K x st fa c ∧ ∀ (s : Shared) (u : Value), BindsTo s fd ⟨[u], []⟩ [(y, u)] := by
  have e := hmg.symm.trans (PySem.W.mg_of X G a)
  cases e
  exact ⟨_, fun_mk (st := st) l cd kp, codeAt_mk l, hb _ _ _ _ _ _⟩
end
/-- of data alone, T the tables that may change -/
def spDT (K : Fg) (T : List (Addr × Str)) (n : Nat) (f : PF) : Sp := fun vs H Q E => vs.length = n ∧ ∃ (W : List Addr) (ds : List PyData) (R : PyData → Prop) (uT : ∀ p ∈ T, ∀ q ∈ T, p.1 = q.1 → p.2 = q.2), Wok H W ∧ (∀ p ∈ T, p.1 ∈ W) ∧ Tabs T H ∧ DwA K H W vs ds ∧
  f ds R ⟨fun _ _ => False, T⟩ ∧ ∀ (v : V) (d : PyData) (H' : Hp), R d → (∀ b o, ¬ InT T b → H b = some o → H' b = some o) → Tabs T H' → Dw K H' W v d → Q v H'
section
variable {P : Program} {w : World} {K : Fg} {mg : Str → Option Value} {base : Heap}
theorem fun_dT {x : Str} {st : Stmt} {f : Addr} {fd : FuncData} {N ps : List Str} {k n : Nat} {T : List (Addr × Str)} {fn : PF} (F : Fun K x x st f fd) (S : FnScope N ps (defScope st)) (hn : ps.length = n)
    {c : Addr} (hc : CodeAt K x st f c)
    (dt : DS) (h : ∀ (cdv : Value) (A : Around) (outer : List Env) (s : Shared) (H : Hp) (E : XK), Room k (A.deeper (envOfC x (defScope st) s.heap.objs.size f cdv)) → A.guards = some [] → cdv = .ref c → DBx (CXn P w K mg base N x st f cdv A outer s H E) E0 (defBody st) dt)
    (hd : ∀ ds R, ds.length = n → fn ds R ⟨fun _ _ => False, T⟩ → dt { nx := fun _ => R .none, rt := fun d _ => R d } (startD N.length ds) ⟨fun _ _ => False, T⟩) : FnG P w K mg base CX0 (k + 1) f fd ps (spDT K T n fn) := by
  obtain ⟨oc, od, kV, doc, pm, an, cdv, ct, osl, rfl, lk, hcd⟩ := F.ex
  refine fn_g lk hcd S (fun vs H Q E h => by rw [h.1, hn]) fun A outer s H vs Q E hr hgd hsp => ?_
  obtain ⟨t, p, q⟩ := (h cdv A outer s H E hr hgd (hc _ _ _ _ _ _ _ _ _ lk)).ex
  obtain ⟨hl, W, ds, R, uT, hW, hTW, hT, hdw, hf, k1⟩ := hsp
  refine ⟨t, p.nox, ?_⟩
  have S0 : SOk K H W ⟨none, T, uT, none⟩ W (L2.start N vs) (startD N.length ds) H := by
    refine ⟨fun _ z => z, hW, fun _ z => .inl z, hW, fun _ _ h _ => h, (fun _ z => nomatch z), ⟨hT, fun r hr => ⟨hTW r hr, hW _ (hTW r hr)⟩⟩, fun i d h => start_ok (s := ⟨none, T, uT, none⟩) (W0 := W) (H0 := H) hdw i d h, fun i j v es fs h1 => ?_, ?_⟩
    · exfalso
      unfold startD at h1
      by_cases hl : i < ds.length
      · rw [List.getElem?_append_left (by simpa using hl), List.getElem?_map, List.getElem?_eq_getElem hl] at h1; cases h1
      · rw [List.getElem?_append_right (by simpa using hl), List.getElem?_replicate] at h1
        split at h1 <;> cases h1
    · refine ⟨by simp [L2.start, startD, hdw.length], fun _ z => nomatch z⟩
  have hl' : ds.length = n := by rw [← hdw.length]; exact hl
  have out : ∀ {v : V} {d : PyData} {W' : List Addr} {σ' : St} {ρ' : Env'} {H' : Hp}, R d → SOk K H W ⟨none, T, uT, none⟩ W' σ' ρ' H' → Dw K H' W' v d → Q v H' := fun {v d W' σ' ρ' H'} hR S' w' =>
    k1 v d H' hR (fun b o n2 hb => S'.frame b o hb fun z => by
      rcases z with z | z
      · cases z
      · exact n2 z) S'.tab.1 (w'.to (Ext.refl _ _) S'.sub)
  exact q _ H W W _ _ H _ ⟨fun _ _ => False, T⟩ _ S0 ⟨fun _ z => z, fun _ _ _ _ _ h => h.elim⟩ (hd ds R hl' hf) ⟨fun W' σ' ρ' H' h st S' => out h S' .non, fun W' σ' ρ' H' v d h S' w' => out h S' w', fun _ _ _ _ h => h.elim, fun _ _ _ _ h => h.elim⟩
end
/-- f(a, ..), T the tables that it may change -/
def dFnD (T : List (Addr × Str)) (fn : PF) (a : DA) : DE := fun ρ R Er => (∀ p ∈ T, p ∈ Er.T) ∧ a ρ (fun ds ρ1 => fn ds (fun d => R d ρ1) ⟨fun _ _ => False, T⟩) Er
section
variable {X : Cx} {EX : XK} {j k n : Nat} {x : Str} {p pos : Pos} {e : Expr} {es : List Expr} {da : DA} {fn : PF}
theorem de_callD {T : List (Addr × Str)} (c : Cal X.prog X.w X.K X.mg X.base k x (spDT X.K T n fn)) (hr : Room j X.A) (hk : k ≤ j) (hgd : X.A.guards = some []) (ha : DAx X EX (e :: es) da) (hg : Gl X x := by rfl) (hdb : (x == ("__debug__" : Str)) = false := by decide)
    (he : starEach (e :: es) X.env = (false, eval e X.env) :: starEach es X.env := by rfl) (hpl : (backTo pos (starEach es X.env)).any (·.1) = false := by rfl) :
    DEx X EX (.Call (.Name x p) (e :: es) [] pos) (dFnD T (fun ds R Er => ds.length = n ∧ fn ds R Er) da) := by
  obtain ⟨f, fd, ps, F, g, kp, b⟩ := c.ex
  obtain ⟨t, pa, q⟩ := ha.ex
  refine ⟨_, pe_callG (E := EX) F (hr.mono hk) hgd hg g kp b passE pa hdb he hpl, fun s H0 W0 W σ ρ H R Er Q S eo hd kk => ?_⟩
  obtain ⟨hT, hd⟩ := hd
  refine q s H0 W0 W σ ρ H _ Er _ S eo hd fun vs ds W1 ρ1 H1 hd1 s1 e1 S1 w1 => ?_
  show spDT X.K T n fn (vs ++ []) H1 Q EX
  rw [List.append_nil]
  have inT : ∀ p ∈ T, p ∈ s.tab := fun p hp => eo.tabs p (hT p hp)
  have ain : ∀ z, InT T z → s.Has z := fun z ⟨p, hp, e⟩ => .inr ⟨p, inT p hp, e⟩
  refine ⟨by simp [w1.length, hd1.1], W1, ds, _, fun p hp q hq => s.fn p (inT p hp) q (inT q hq), S1.tr, fun p hp => S1.sub _ (S1.tab.2 p (inT p hp)).1, fun p hp => S1.tab.1 p (inT p hp), w1, hd1.2, fun v d H2 hR fr ht2 w2 => ?_⟩
  have tab2 : Tabs s.tab H2 := fun p hp => by
    by_cases z : InT T p.1
    · obtain ⟨r, hr, e⟩ := z
      have e2 := s.fn r (inT r hr) p hp e
      have := ht2 r hr
      rw [e, e2] at this
      exact this
    · obtain ⟨qs, h1, h2, h3⟩ := S1.tab.1 p hp
      have keep : ∀ b o, H1 b = some o → ¬ InT T b → H2 b = some o := fun b o h n2 => fr b o n2 h
      refine ⟨qs, keep _ _ h1 z, h2, fun pos cv hc => ?_⟩
      obtain ⟨c, g1, g2⟩ := h3 pos cv hc
      refine ⟨c, g1, keep _ _ g2 fun ⟨r, hr, e⟩ => ?_⟩
      obtain ⟨rs, z1, _⟩ := S1.tab.1 r (inT r hr)
      rw [e, g2] at z1
      exact codeO_ne rs (Option.some.inj z1)
  have src2 : ∀ a, s.src = some a → SrcAt H2 a := fun a ha => (S1.src a ha).2.2.stay fun o h => fr a o (fun ⟨r, hr, e⟩ => by
    obtain ⟨rs, z1, _⟩ := S1.tab.1 r (inT r hr)
    obtain ⟨x, y, z2, _⟩ := (S1.src a ha).2.2
    rw [e, z2] at z1
    cases z1) h
  have S2 : SOk X.K H0 W0 s W1 σ ρ1 H2 := S1.grow (fun b o n h => fr b o (fun z => n (ain b z)) h) src2 tab2
  refine kk v d W1 ρ1 H2 hR s1 (e1.trans fun b o hn h => fr b o (fun z => S1.no' (hn.imp (fun n z => n (s1 _ z)) id) h (ain b z)) h) S2 w2
/-- x(lambda: body) by the def that catches -/
theorem de_caughtD {told q : Str} {cs : List (Addr × Str)} {dt : DE} {a : Str} {c P : Addr} {st : Stmt} {Ng : List Str} {params : Arguments} {body : Expr} {scope : Scope} {lpos : Pos} (Dc : DefAt X.K X.mg x st [a]) (Sg : FnScope Ng [a] (defScope st)) (n0 : Ng[0]? = some a) (va : Vis (defScope st) a)
    (G : ∀ (g : Addr) (cdg : Value), GivesTo X Ng x (defScope st) g cdg (defBody st) a q (TTc X.K told cs)) (xm : ExmOk X.K cs)
    (B : TabB X.base X.mg c P) (cd : X.env.code = .ref c) (hq : q = X.env.qual ++ "<lambda>") (hr : Room (k + 2) X.A) (hgd : X.A.guards = some []) (L : lamSB X.env.scope scope = true)
    (bd : ∀ (A : Around) (outer : List Env) (s : Shared) (H : Hp) (E : XK) (f d : Addr), Room k (A.deeper (lamEnv X scope s.heap.objs.size f d)) → A.guards = some [] → DEx (lamCx X A outer s H E scope f d) E body dt)
    (gl : Gl X x := by rfl) (nodef : defaultsOf params X.env = ([], []) := by rfl)
    (bnd : ∀ (q : Str) (cl : List (Str × Addr)) (pm cv ctv : Value), bindArgs (PySem.W.kla_fn "<lambda>" q params body scope cl pm cv ctv) ⟨[], []⟩ = pure [] := by intros; rfl)
    (d1 : (x == ("__debug__" : Str)) = false := by decide) (d2 : (a == ("__debug__" : Str)) = false := by decide) (d3 : (a == ("__classdict__" : Str)) = false := by decide) :
    DEx X EX (.Call (.Name x p) [.Lambda params body scope lpos] [] pos) (dCaught P q told cs dt) := by
  obtain ⟨g, fd, F, mm, bi⟩ := Dc.ex
  have kp := F.kp
  obtain ⟨oc, od, kV, doc, pm, an, cdv, ct, osl, rfl, lk, hcd⟩ := F.ex
  exact de_caught gl mm kp lk hcd bi Sg n0 va (G g cdv) hq xm B cd hr hgd (lamS_by L) nodef bnd bd d1 d2 d3
end
/-- lambdas' bodies: what a callee lets out goes on -/
theorem passLam {CXg : CXT} {X : Cx} {A : Around} {outer : List Env} {s : Shared} {H : Hp} {E : XK} {scope : Scope} {f d : Addr} (h : CXg = L2.CX X.prog X.w := by rfl) : Passes CXg (lamCx X A outer s H E scope f d) E := by
  subst h
  exact passes_call (takes_of rfl rfl rfl rfl) fun _ _ _ _ h => h
/-! ### own errors -/
/-- what the top has left of an own error's class -/
structure ErrA (K : Fg) (mg : Str → Option Value) (x : Str) (C fI : Addr) : Prop where
  g : mg x = some (.ref C)
  T : OexC K C
  X : XfC K C
  nv : PySem.W.findIn K (.ref C) "value" = some none
  iC : PySem.W.findIn K (.ref C) "__init__" = some (some (.ref fI))
theorem erra_mk {K : Fg} {h : Heap} {mg : Str → Option Value} (X : K.In h) (G : h.Ns mainGlobals mg) {x : Str} {C fI N : Addr} {nm q : Str} {bs bm : List Value} {sn sub col ab dd k0 k1 k2 k3 k5}
    (a : PySem.W.nsIn K mainGlobals x = some (some (.ref C))) (l : K.lookup C = some (excClassObj nm q C N bs bm true sn sub ab col dd k0 k1 k2 k3 k5 "ValueError.__new__")) (hb : PySem.HandSPX.refsVE bm = true)
    (sa : PySem.W.findIn K (.ref C) "__setattr__" = some (some (.builtin "object.__setattr__"))) (ex : PySem.W.subIn K (.ref C) (.type "BaseException") = some true) (ty : PySem.W.typeIn K (.ref C) = some (.type "type")) (kp : PySem.W.keepIn K (.ref C) = true)
    (ga : PySem.W.findIn K (.ref C) "__getattribute__" = some (some (.builtin "BaseException.__getattribute__"))) (gg : PySem.W.findIn K (.ref C) "__getattr__" = some none) (hd : PySem.W.hasDictIn K C = true)
    (nv : PySem.W.findIn K (.ref C) "value" = some none) (iC : PySem.W.findIn K (.ref C) "__init__" = some (some (.ref fI))) : ErrA K mg x C fI :=
  ⟨PySem.W.mg_of X G a, ⟨⟨_, _, _, _, _, _, _, _, _, _, _, _, _, _, _, l, hb⟩, sa, ex, ty, kp⟩, ⟨ga, gg, ex, hd⟩, nv, iC⟩
/-- the classes' __init__ -/
structure InitA (K : Fg) (st : Stmt) (fI : Addr) : Prop where
  ex : ∃ fd : FuncData, Fun K "__init__" "StayError.__init__" st fI fd ∧ Binds K fd ["self", "value"] []
  ty : PySem.W.typeIn K (.ref fI) = some (.type "function")
  vV : PySem.W.findCls K (.type "ValueError") (.type "type") "__init__" = some (.val (.builtin "ValueError.__init__"))
theorem inita_mk {K : Fg} {st : Stmt} {fI : Addr} {oc : Value} {od an : Option Addr} {osl : Array (Option Value)} {kV doc pm cdv ct : Value}
    (l : K.lookup fI = some ⟨oc, od, .func (PySem.W.fnOf "__init__" "StayError.__init__" (defArgs st) (defBody st) (defScope st) .none kV doc pm an cdv ct), osl⟩) (c : PySem.W.codeIn K cdv "StayError.__init__" = true) (k : PySem.W.keepIn K (.ref fI) = true)
    (ty : PySem.W.typeIn K (.ref fI) = some (.type "function")) (vV : PySem.W.findCls K (.type "ValueError") (.type "type") "__init__" = some (.val (.builtin "ValueError.__init__")))
    (hb : ∀ (kV doc pm : Value) (an : Option Addr) (cdv ct : Value) (us : List Value), us.length = (["self", "value"] : List Str).length → bindArgs (PySem.W.fnOf "__init__" "StayError.__init__" (defArgs st) (defBody st) (defScope st) .none kV doc pm an cdv ct) ⟨us, []⟩ = pure ((["self", "value"] : List Str).zip us)) : InitA K st fI := by
  have F := fun_mk (st := st) l c k
  exact ⟨⟨_, F, F.binds hb⟩, ty, vV⟩
theorem errc_of {P : Program} {w : World} {K : Fg} {mg : Str → Option Value} {base : Heap} {x : Str} {C fI : Addr} {st : Stmt} (E : ErrA K mg x C fI) (I : InitA K st fI)
    (ok : ∀ {f : Addr} {fd : FuncData}, Fun K "__init__" "StayError.__init__" st f fd → PySem.W.findCls K (.type "ValueError") (.type "type") "__init__" = some (.val (.builtin "ValueError.__init__")) → FnOk P w K mg base CX0 1 f fd ["self", "value"] (spInit K)) : ErrC P w K mg base x C := by
  obtain ⟨fd, F, b⟩ := I.ex
  exact ⟨E.g, E.T, E.nv, fI, fd, E.iC, I.ty, ok F I.vV, b⟩
/-! ### the end -/
/-- a maker's code object and its table -/
structure MkA (K : Fg) (h : Heap) (c P : Addr) : Prop where
  raw : h.get? P = some { cls := .none, data := .fields #[] }
  no : K.lookup P = none
  hd : PySem.W.CodeHd h c P
theorem mka_mk {K : Fg} {h : Heap} (X : K.In h) {c P : Addr} {oc : Value} {od : Option Addr} {vs : Array Value} {osl : Array (Option Value)} (l : K.lookup c = some ⟨oc, od, .fields vs, osl⟩) (p : vs[11]? = some (.ref P)) (e : PySem.W.codeHdIn K c P = true) (no : K.lookup P = none)
    (raw : h.get? P = some { cls := .none, data := .fields #[] }) : MkA K h c P := ⟨raw, no, PySem.W.codeHd_of_K X e⟩
theorem lawT_of {P : Program} {w : World} {K : Fg} {k : Nat} {x : Str} {ok : List Int → Prop} {mg : Str → Option Value} {fa : Addr} {h : Heap} (fd : FuncData) (cs : List (Addr × Addr)) (T : List (Addr × Str)) (m : ∀ p ∈ cs, MkA K h p.1 p.2) (t : ∀ p ∈ T, ∃ q ∈ cs, q.2 = p.1)
    (hb : ∀ (s : Shared) (u : Value), BindsTo s fd ⟨[u], []⟩ [(x, u)]) (F : ∀ base : Heap, K.In base → base.Ns mainGlobals mg → (∀ p ∈ cs, TabB base mg p.1 p.2) → FnG P w K mg base CX0 k fa fd [x] (spLT K T ok)) : LawT P w K k x ok mg fa h :=
  ⟨fd, cs, T, fun p hp => (m p hp).raw, fun p hp => (m p hp).no, fun p hp => (m p hp).hd, t, hb, F⟩
end DD

/-! tuple.index, sorted of a tuple of ints, list(range(..)), an own list made by +. -/
namespace DD
open PySem PySem.Spec PyProof.Rows L2 SrtO
section
variable {prog : Program} {w : World} {A : Around} {E : Value → Shared → Prop} {s : Shared}
theorem sorted_tup {l : Addr} {vs : List Value} {n : Nat} {o : Obj} {ltv : Value → Value → Bool} {Q : Value → Shared → Prop} (O : Swo ltv) (ho : s.heap.get? l = some o) (hc : o.cls = .type "tuple") (hd : o.data = .seq vs.toArray n) (hz : vs.length ≤ sizeLine)
    (hS : 2 ≤ vs.length → ∀ (h₁ : Heap) (a : Addr), SortableO prog w A.in1.in1 { s with heap := h₁ } a vs ltv)
    (h : ∀ (h' : Heap) (out : List Value), (∀ b o, s.heap.get? b = some o → h'.get? b = some o) → Srtd ltv out → Stb ltv out vs → Q (.ref h'.objs.size) { s with heap := sortedHeap (h'.push (seqObj "list" vs.toArray 0)) h'.objs.size vs out.toArray }) :
    wpAny (model prog w) A (call (.builtin "sorted") [.ref l]) Q E s := by
  apply Calls.call_function_entry kind_sorted plain_sorted entry_sorted (args_sorted1 _)
  unfold Builtin.«sorted»
  apply wpAny_bind (m := checkCount "sorted" 1 1 _)
  apply wpAny_pure
  apply wpAny_bind
  refine wpAny_collect_seq (items := vs.toArray) l (.inr rfl) ho hc hd (fun h' kp => ?_) (by simpa using hz)
  have ev : vs.toArray.toList = vs := by simp
  rw [ev]
  apply wpAny_bind
  refine wpAny_newList ?_ hz
  have hget : (h'.push (seqObj "list" vs.toArray 0)).get? h'.objs.size = some (seqObj "list" vs.toArray 0) := Heap.get?_push_size _ rfl
  apply wpAny_bind
  apply wpAny_holding
  refine wpAny_call_entry slot_list_sort ⟨_, hget, rfl⟩ entry_list_sort (list_sort_ord O hget hz (fun h2 => hS h2 _ _) fun out h1 h2 => ⟨.none, rfl, ?_⟩) (args_list_sort _)
  exact wpAny_pure ⟨_, rfl, h h' out kp h1 h2⟩
end
/-- sorted of a tuple of ints -/
def rSortedT (K : Fg) : List V → Hp → VK → Prop := fun vs H Q => ∃ (a : Addr) (ns : List Int), vs = [V.ref a] ∧ SqT K H a (ns.map V.int) ∧ ∀ (ms : List Int) (p : Addr), ms.Perm ns → ms.Pairwise (· ≤ ·) → H p = none → Q (.ref p) (upd H p (.lst (ms.map V.int)))
section
variable {X : Cx} {EX : XK} {o e a b : Expr} {dx dy da db : DE} {pos p apos : Pos}
theorem cr_sortedT : CallR X (.builtin "sorted") (rSortedT X.K) := by
  intro pins s σ H vs us Q I r h
  obtain ⟨a, ns, rfl, hs, q⟩ := h
  obtain ⟨its, rv, ⟨o, ho, hc, n, hd⟩, hz⟩ := I.tuple hs
  rw [Vals.ref1 r]
  have hi := rv.ints
  refine sorted_tup swo_int ho hc hd (by rw [← rv.length]; exact hz) (fun h2 h₁ a' => ints_sortable hi h2) fun h' out kp h1 h2 => ?_
  obtain ⟨k1, k2, k3⟩ := ints_out hi h1 h2
  have hget : (h'.push (seqObj "list" its.toArray 0)).get? h'.objs.size = some (seqObj "list" its.toArray 0) := Heap.get?_push_size _ rfl
  obtain ⟨ep, he'⟩ := PyProof.Rows.sortedHeap_at (vs := its) (out := out.toArray) hget
  have hlen : ((out.map iv).map V.int).length ≤ sizeLine := by
    rw [List.length_map, k2.length_eq]
    rw [List.length_map] at hz
    exact hz
  have kp2 : ∀ b u, h'.get? b = some u → (sortedHeap (h'.push (seqObj "list" its.toArray 0)) h'.objs.size its out.toArray).get? b = some u := fun b u hb => by
    have hlt := Heap.lt_size hb
    rw [PyProof.Rows.sortedHeap_old (Nat.ne_of_lt hlt) (Nat.lt_of_lt_of_le hlt (by rw [Heap.size_push]; exact Nat.le_succ _))]
    exact Heap.get?_push_of_some _ hb
  have I1 : Inv X pins σ H { s with heap := h' } := I.kept (t' := s.toks) kp
  exact ⟨.ref _, upd H h'.objs.size (.lst ((out.map iv).map V.int)), I1.laid (t' := s.toks) kp2 (Nat.le_refl _) ⟨hlen, out, ep, vals_of_ints k1, he'⟩, rfl, q _ _ k2 k3 (I1.hok.fresh (Nat.le_refl _))⟩
def dSortedT (a : DE) : DE := fun ρ R Er => a ρ (fun d ρ1 => ∃ ns : List Int, d = .tuple (ns.map .int) ∧ ∀ ms : List Int, ms.Perm ns → ms.Pairwise (· ≤ ·) → R (.list (ms.map .int)) ρ1) Er
theorem de_sortedT (ha : DEx X EX e da) (hm : X.mg "sorted" = none) (mk : ∀ te, PE X e te → PE X (.Call (.Name "sorted" p) [e] [] pos) (tCB (rSortedT X.K) (tCons te tNil))) : DEx X EX (.Call (.Name "sorted" p) [e] [] pos) (dSortedT da) := by
  obtain ⟨t, pa, q⟩ := ha.ex
  refine ⟨_, mk t pa, fun s H0 W0 W σ ρ H R Er Q S eo hd k => ?_⟩
  refine q s H0 W0 W σ ρ H _ Er _ S eo hd fun v d W1 ρ1 H1 hd1 s1 e1 S1 w1 => ?_
  obtain ⟨ns, rfl, hR⟩ := hd1
  obtain ⟨a, rfl⟩ := w1.tupV
  obtain ⟨xs, h1, q1⟩ := w1.sqT
  have ex := ints_dw q1
  subst ex
  refine ⟨a, ns, rfl, h1, fun ms p h2 h3 hp => ?_⟩
  have hms : DwA X.K H1 W1 (ms.map V.int) (ms.map PyData.int) := by
    clear h2 h3 hR
    induction ms with
    | nil => exact .nil
    | cons m r ih => exact .cons (.int m) ih
  exact k _ _ W1 ρ1 _ (hR ms h2 h3) s1 (e1.trans (Ext.same (same_upd hp))) (S1.alloc hp) (Dw.newLst hp (S1.fresh hp) hms)
/-- list(range(e)) -/
def dListRg (a : DE) : DE := fun ρ R Er => a ρ (fun d ρ1 => match d with | .int n => n ≤ 100000 ∧ -100000 ≤ n ∧ R (.list (rangeD 0 n.toNat)) ρ1 | _ => False) Er
theorem de_listRg {p2 pos2 : Pos} (hc : X.calm = true) (hm : X.mg "list" = none) (hm2 : X.mg "range" = none) (ha : DEx X EX e da) (hg : Gl X "list" := by rfl) (hg2 : Gl X "range" := by rfl)
    (na : starEach [.Call (.Name "range" p2) [e] [] pos2] X.env = (false, eval (.Call (.Name "range" p2) [e] [] pos2) X.env) :: starEach [] X.env := by rfl) (na2 : starEach [e] X.env = (false, eval e X.env) :: starEach [] X.env := by rfl) :
    DEx X EX (.Call (.Name "list" p) [.Call (.Name "range" p2) [e] [] pos2] [] pos) (dListRg da) := by
  obtain ⟨t, pa, q⟩ := ha.ex
  refine ⟨_, pe_listRg hc hg hm (prg_1 hg2 hm2 pa na2) na, fun s H0 W0 W σ ρ H R Er Q S eo hd k => ?_⟩
  refine q s H0 W0 W σ ρ H _ Er _ S eo hd fun v d W1 ρ1 H1 hd1 s1 e1 S1 w1 => ?_
  cases d with
  | int n =>
    cases w1
    refine ⟨n, rfl, ⟨by omega, by omega, by omega, by omega, by omega⟩, fun p hp => ?_⟩
    have hms : DwA X.K H1 W1 (rgV 0 n) (rangeD 0 n.toNat) := by
      unfold rgV rangeD
      rw [Int.sub_zero]
      generalize List.range n.toNat = l
      induction l with
      | nil => exact .nil
      | cons m r ih => exact .cons (.int _) ih
    exact k _ _ W1 ρ1 _ hd1.2.2 s1 (e1.trans (Ext.same (same_upd hp))) (S1.alloc hp) (Dw.newLst hp (S1.fresh hp) hms)
  | _ => exact hd1.elim
/-- x = a + b, lists: x is an own list -/
def sSetOAdd (i : Nat) (a b : DE) : DS := fun D ρ Er => a ρ (fun d ρ1 => b ρ1 (fun e ρ2 => ∃ xs ys, d = .list xs ∧ e = .list ys ∧ xs.length + ys.length ≤ 100000 ∧ D.nx (ρ2.set i (some (.own (xs ++ ys))))) Er) Er
theorem ds_setOAdd {i : Nat} {x : Str} {pos' p2 : Pos} (mk : ∀ te, PE X (.BinOp a .Add b p2) te → PS X (.Assign [.Name x pos'] (.BinOp a .Add b p2) pos) (tAsg te (gName i))) (ha : DEx X EX a da) (hb : DEx X EX b db) (i0 : 0 < i := by decide) : DSx X EX (.Assign [.Name x pos'] (.BinOp a .Add b p2) pos) (sSetOAdd i da db) := by
  obtain ⟨ta, pa, qa⟩ := ha.ex
  obtain ⟨tb, pb, qb⟩ := hb.ex
  refine ⟨_, mk _ (pe_op op_cat pa pb), fun s H0 W0 W σ ρ H D Er E S eo hd k => ?_⟩
  refine qa s H0 W0 W σ ρ H _ Er _ S eo hd fun v d W1 ρ1 H1 hd1 s1 e1 S1 w1 => ?_
  refine qb s H0 W0 W1 σ ρ1 H1 _ Er _ S1 eo hd1 fun u e W2 ρ2 H2 hd2 s2 e2 S2 w2 => ?_
  obtain ⟨xs, ys, rfl, rfl, hl, hn⟩ := hd2
  cases w1.to e2 s2 with
  | lst n1 r1 q1 =>
    cases w2 with
    | lst n2 r2 q2 =>
      refine ⟨_, _, _, _, rfl, rfl, r1, r2, by rw [q1.length, q2.length]; exact big_le hl, fun p hp => ?_⟩
      obtain ⟨S3, no⟩ := S2.newOwn hp
      exact k.nx _ _ _ _ hn (((Step.of s1 e1).trans (Step.of s2 e2)).trans (step_new hp)) (S3.setOwn List.mem_cons_self (S2.fresh0 hp) upd_same (DwA.new hp (q1.append q2)) no i0)
end
end DD

/-! Own lists: items read and stored; own lists handed to defs that change them. -/
namespace DD
open PySem L2 LamX
open PyProof.Rows (envOfC)
/-- what is asked of a def whose first argument is somebody's own list: its content, the other arguments; the wish: the value and the content behind -/
abbrev PO := List PyData → List PyData → (PyData → List PyData → Prop) → Er' → Prop
def spO (K : Fg) (T : List (Addr × Str)) (n : Nat) (f : PO) : Sp := fun vs H Q E => vs.length = n ∧ ∃ (a : Addr) (vs' : List V) (W : List Addr) (xs : List V) (cs ds : List PyData) (R : PyData → List PyData → Prop) (uT : ∀ p ∈ T, ∀ q ∈ T, p.1 = q.1 → p.2 = q.2),
  vs = .ref a :: vs' ∧ Wok H W ∧ a ∉ W ∧ (∀ p ∈ T, p.1 ∈ W) ∧ Tabs T H ∧ H a = some (.lst xs) ∧ DwA K H (a :: W) xs cs ∧ DwA K H (a :: W) vs' ds ∧ f cs ds R ⟨fun _ _ => False, T⟩ ∧
  ∀ (v : V) (d : PyData) (cs' : List PyData) (xs' : List V) (H' : Hp), R d cs' → (∀ b o, b ≠ a → ¬ InT T b → H b = some o → H' b = some o) → H' a = some (.lst xs') → Tabs T H' → DwA K H' (a :: W) xs' cs' → Dw K H' (a :: W) v d → Q v H'
def startO (n : Nat) (cs ds : List PyData) : Env' := some (.own cs) :: startD (n - 1) ds
/-- the wish at the end: the own list stands at the first place -/
def rtO (R : PyData → List PyData → Prop) : PyData → Env' → Prop := fun d ρ => match ρ[0]? with
  | some (some (D.own cs)) => R d cs
  | _ => False
/-- H without a -/
def lessH (H : Hp) (a : Addr) : Hp := fun b => if b = a then none else H b
theorem lessH_ne {H : Hp} {a b : Addr} (h : b ≠ a) : lessH H a b = H b := if_neg h
theorem lessH_same {H : Hp} {a : Addr} : lessH H a a = none := if_pos rfl
theorem lessH_some {H : Hp} {a b : Addr} {o : HO} (h : lessH H a b = some o) : b ≠ a ∧ H b = some o := by
  by_cases e : b = a
  · subst e; rw [lessH_same] at h; cases h
  · rw [lessH_ne e] at h; exact ⟨e, h⟩
section
variable {P : Program} {w : World} {K : Fg} {mg : Str → Option Value} {base : Heap}
theorem fun_o {x : Str} {st : Stmt} {f : Addr} {fd : FuncData} {N ps : List Str} {k n : Nat} {T : List (Addr × Str)} {fn : PO} (F : Fun K x x st f fd) (S : FnScope N ps (defScope st)) (hn : ps.length = n) (hN : 0 < N.length)
    {Cd : Value → Prop} (hc : ∀ (oc : Value) (od : Option Addr) (kV doc pm : Value) (an : Option Addr) (cdv ct : Value) (osl : Array (Option Value)), K.lookup f = some ⟨oc, od, .func (PySem.W.fnOf x x (defArgs st) (defBody st) (defScope st) .none kV doc pm an cdv ct), osl⟩ → Cd cdv)
    (dt : DS) (h : ∀ (cdv : Value) (A : Around) (outer : List Env) (s : Shared) (H : Hp) (E : XK), Room k (A.deeper (envOfC x (defScope st) s.heap.objs.size f cdv)) → A.guards = some [] → Cd cdv → DBx (CXn P w K mg base N x st f cdv A outer s H E) E0 (defBody st) dt)
    (hd : ∀ cs ds R, ds.length + 1 = n → fn cs ds R ⟨fun _ _ => False, T⟩ → dt { nx := fun ρ => rtO R .none ρ, rt := rtO R } (startO N.length cs ds) ⟨fun _ _ => False, T⟩) : FnG P w K mg base CX0 (k + 1) f fd ps (spO K T n fn) := by
  obtain ⟨oc, od, kV, doc, pm, an, cdv, ct, osl, rfl, lk, hcd⟩ := F.ex
  refine fn_g lk hcd S (fun vs H Q E h => by rw [h.1, hn]) fun A outer s H vs Q E hr hgd hsp => ?_
  obtain ⟨t, p, q⟩ := (h cdv A outer s H E hr hgd (hc _ _ _ _ _ _ _ _ _ lk)).ex
  obtain ⟨hl, a, vs', W, xs, cs, ds, R, uT, rfl, hW, haW, hTW, hT, ha, hcs, hdw, hf, k1⟩ := hsp
  refine ⟨t, p.nox, ?_⟩
  have e0 : L2.start N (V.ref a :: vs') = some (V.ref a) :: (vs'.map some ++ List.replicate (N.length - 1 - vs'.length) none) := by
    unfold L2.start
    simp only [List.map_cons, List.cons_append, List.length_cons]
    congr 3
    omega
  have only : ∀ {i : Nat} {es : List PyData}, (startO N.length cs ds)[i]? = some (some (.own es)) → i = 0 := fun {i es} h1 => by
    cases i with
    | zero => rfl
    | succ i =>
      exfalso
      unfold startO startD at h1
      rw [List.getElem?_cons_succ] at h1
      by_cases hl : i < ds.length
      · rw [List.getElem?_append_left (by simpa using hl), List.getElem?_map, List.getElem?_eq_getElem hl] at h1; cases h1
      · rw [List.getElem?_append_right (by simpa using hl), List.getElem?_replicate] at h1
        split at h1 <;> cases h1
  have S0 : SOk K (lessH H a) W ⟨none, T, uT, some a⟩ (a :: W) (L2.start N (V.ref a :: vs')) (startO N.length cs ds) H := by
    refine ⟨fun _ z => List.mem_cons_of_mem _ z, fun b hb => ?_, fun b hb => ?_, fun b hb => ?_, fun b o hb _ => (lessH_some hb).2, (fun _ z => nomatch z), ⟨hT, fun r hr => ⟨hTW r hr, ?_⟩⟩, fun i d h => ?_, fun i j v es fs h1 h2 _ _ => ?_, ?_⟩
    · obtain ⟨o, ho⟩ := hW b hb
      exact ⟨o, by rw [lessH_ne (fun e => haW (by rw [← e]; exact hb))]; exact ho⟩
    · rcases List.mem_cons.mp hb with rfl | hb
      · exact .inr lessH_same
      · exact .inl hb
    · rcases List.mem_cons.mp hb with rfl | hb
      · exact ⟨_, ha⟩
      · exact hW b hb
    · obtain ⟨o, ho⟩ := hW _ (hTW r hr)
      exact ⟨o, by rw [lessH_ne (fun e => haW (by rw [← e]; exact hTW r hr))]; exact ho⟩
    · rw [e0]
      cases i with
      | zero =>
        simp only [startO, List.getElem?_cons_zero, Option.some.injEq] at h
        subst h
        exact ⟨_, rfl, a, xs, rfl, List.mem_cons_self, lessH_same, ha, hcs⟩
      | succ i => exact start_ok (s := ⟨none, T, uT, some a⟩) (W0 := W) (H0 := lessH H a) hdw i d (by simpa [startO] using h)
    · rw [only h1, only h2]
    · refine ⟨by rw [e0]; simp [startO, startD, hdw.length], fun b hb es h0 => ?_⟩
      cases hb
      rw [e0]
      rfl
  have hl' : ds.length + 1 = n := by rw [← hdw.length]; simpa using hl
  have out : ∀ {v : V} {d : PyData} {W' : List Addr} {σ' : St} {ρ' : Env'} {H' : Hp}, rtO R d ρ' → SOk K (lessH H a) W ⟨none, T, uT, some a⟩ W' σ' ρ' H' → Dw K H' W' v d → Q v H' := fun {v d W' σ' ρ' H'} hR S' w' => by
    unfold rtO at hR
    split at hR
    · rename_i cs' e
      obtain ⟨u, g1, a2, xs', rfl, g2, g3, g4, g5⟩ := S'.slot 0 _ e
      have g6 := S'.len.2 a rfl cs' e
      rw [g1] at g6
      cases g6
      have sb : ∀ x ∈ a :: W, x ∈ W' := fun x hx => by
        rcases List.mem_cons.mp hx with rfl | hx
        · exact g2
        · exact S'.sub x hx
      exact k1 v d cs' xs' H' hR (fun b o n1 n2 hb => S'.frame b o (by rw [lessH_ne n1]; exact hb) fun z => by
        rcases z with z | z
        · cases z
        · exact n2 z) g4 S'.tab.1 (g5.to (Ext.refl _ _) sb) (w'.to (Ext.refl _ _) sb)
    · exact hR.elim
  exact q _ (lessH H a) W (a :: W) _ _ H _ ⟨fun _ _ => False, T⟩ _ S0 ⟨fun _ z => z, fun _ _ _ _ _ h => h.elim⟩ (hd cs ds R hl' hf) ⟨fun W' σ' ρ' H' h st S' => out h S' .non, fun W' σ' ρ' H' v d h S' w' => out h S' w', fun _ _ _ _ h => h.elim, fun _ _ _ _ h => h.elim⟩
/-- an own list is changed by somebody else, and the tables of T -/
theorem SOk.ownCall {H0 H H2 : Hp} {W0 W : List Addr} {s : Sc} {σ : St} {ρ : Env'} (S : SOk K H0 W0 s W σ ρ H) {T : List (Addr × Str)} (inT : ∀ p ∈ T, p ∈ s.tab) {i : Nat} {a : Addr} {cs cs' : List PyData} {xs' : List V} (hi : ρ[i]? = some (some (.own cs))) (ha : σ[i]? = some (some (.ref a)))
    (fr : ∀ b o, b ≠ a → ¬ InT T b → H b = some o → H2 b = some o) (h2 : H2 a = some (.lst xs')) (ht : Tabs T H2) (q : DwA K H2 W xs' cs') : SOk K H0 W0 s W σ (ρ.set i (some (.own cs'))) H2 ∧ Ext W H H2 := by
  obtain ⟨u, g1, a1, xs, rfl, aW, a0, ah, aq⟩ := S.slot i _ hi
  rw [ha] at g1
  cases g1
  have ain : ∀ z, InT T z → s.Has z := fun z ⟨p, hp, e⟩ => .inr ⟨p, inT p hp, e⟩
  have H3e : ∀ b, (upd H2 a (.lst xs)) b = if b = a then some (.lst xs) else H2 b := fun b => rfl
  have tab2 : Tabs s.tab H2 := fun p hp => by
    by_cases z : InT T p.1
    · obtain ⟨r, hr, e⟩ := z
      have e2 := s.fn r (inT r hr) p hp e
      have := ht r hr
      rw [e, e2] at this
      exact this
    · obtain ⟨qs, t1, t2, t3⟩ := S.tab.1 p hp
      have keep : ∀ b o, H b = some o → (∀ xs, o ≠ .lst xs) → ¬ InT T b → H2 b = some o := fun b o h n1 n2 => fr b o (fun e => by
        rw [e, ah] at h
        exact n1 _ (Option.some.inj h).symm) n2 h
      refine ⟨qs, keep _ _ t1 (fun xs z => by cases z) z, t2, fun pos cv hc => ?_⟩
      obtain ⟨c, k1, k2⟩ := t3 pos cv hc
      refine ⟨c, k1, keep _ _ k2 (fun xs z => by unfold LamX.CodeO at z; cases z) fun ⟨r, hr, e⟩ => ?_⟩
      obtain ⟨rs, z1, _⟩ := S.tab.1 r (inT r hr)
      rw [e, k2] at z1
      exact codeO_ne rs (Option.some.inj z1)
  have S3 : SOk K H0 W0 s W σ ρ (upd H2 a (.lst xs)) := by
    refine S.grow (fun b o n h => ?_) (fun b hb => ?_) (tabs_upd tab2 h2)
    · by_cases e : b = a
      · subst e; rw [upd_same, ← ah, h]
      · rw [upd_ne e]; exact fr b o e (fun z => n (ain b z)) h
    · obtain ⟨_, ⟨o, ho⟩, sa⟩ := S.src b hb
      have ne : b ≠ a := fun e => by rw [e, a0] at ho; cases ho
      refine sa.stay fun o h => ?_
      rw [upd_ne ne]
      refine fr b o ne (fun ⟨r, hr, e⟩ => ?_) h
      obtain ⟨rs, z1, _⟩ := S.tab.1 r (inT r hr)
      obtain ⟨x, y, z2, _⟩ := sa
      rw [e, z2] at z1
      cases z1
  obtain ⟨a3, ys, b1, b2, b3, b4, b5, b6⟩ := S3.changeOwn hi
  rw [ha] at b1
  cases b1
  have ex23 : Ext W H2 (upd H2 a (.lst xs)) := Ext.one h2 aW (fun _ z => by cases z)
  obtain ⟨S4, _⟩ := b6 xs' cs' (q.to ex23 fun _ z => z)
  have eH : upd (upd H2 a (.lst xs)) a (.lst xs') = H2 := by
    rw [upd_upd]
    funext b
    by_cases e : b = a
    · subst e; rw [upd_same, h2]
    · rw [upd_ne e]
  rw [eH] at S4
  exact ⟨S4, fun b o n h => fr b o (fun e => by
    rcases n with n | ⟨ys, rfl⟩
    · exact n (by rw [e]; exact aW)
    · rw [e, ah] at h; cases h) (fun z => S.no' n h (ain b z)) h⟩
end
/-- f(own, a, ..) -/
def dFnO (i : Nat) (T : List (Addr × Str)) (fn : PO) (a : DA) : DE := fun ρ R Er => (∃ cs, ρ[i]? = some (some (.own cs))) ∧ (∀ p ∈ T, p ∈ Er.T) ∧ a ρ (fun ds ρ1 => match ρ1[i]? with
  | some (some (D.own cs)) => fn cs ds (fun d cs' => R d (ρ1.set i (some (.own cs')))) ⟨fun _ _ => False, T⟩
  | _ => False) Er
section
variable {X : Cx} {EX : XK} {j k n : Nat} {x : Str} {p pos : Pos} {e : Expr} {es : List Expr} {da db : DA} {fn : PO}
theorem de_callO {i : Nat} {y : Str} {py : Pos} {T : List (Addr × Str)} (c : Cal X.prog X.w X.K X.mg X.base k x (spO X.K T n fn)) (hr : Room j X.A) (hk : k ≤ j) (hgd : X.A.guards = some []) (hv : PE X (.Name y py) (tVar i)) (ha : DAx X EX es da) (hg : Gl X x := by rfl) (hdb : (x == ("__debug__" : Str)) = false := by decide)
    (he : starEach (.Name y py :: es) X.env = (false, eval (.Name y py) X.env) :: starEach es X.env := by rfl) (hpl : (backTo pos (starEach es X.env)).any (·.1) = false := by rfl) :
    DEx X EX (.Call (.Name x p) (.Name y py :: es) [] pos) (dFnO i T (fun cs ds R Er => ds.length + 1 = n ∧ fn cs ds R Er) da) := by
  obtain ⟨f, fd, ps, F, g, kp, b⟩ := c.ex
  obtain ⟨t, pa, q⟩ := ha.ex
  refine ⟨_, pe_callG (E := EX) F (hr.mono hk) hgd hg g kp b passE (pa_cons hv pa he) hdb he hpl, fun s H0 W0 W σ ρ H R Er Q S eo hd kk => ?_⟩
  obtain ⟨⟨cs0, h0⟩, hT, hd⟩ := hd
  obtain ⟨v0, hv0, a, xs0, rfl, _⟩ := S.slot i _ h0
  refine ⟨_, hv0, ?_⟩
  refine q s H0 W0 W σ ρ H _ Er _ S eo hd fun vs ds W1 ρ1 H1 hd1 s1 e1 S1 w1 => ?_
  show spO X.K T n fn (.ref a :: vs ++ []) H1 Q EX
  rw [List.append_nil]
  split at hd1
  · rename_i cs hi
    obtain ⟨u, g1, a1, xs, rfl, aW, a0, ah, aq⟩ := S1.slot i _ hi
    rw [hv0] at g1
    cases g1
    have inT : ∀ p ∈ T, p ∈ s.tab := fun p hp => eo.tabs p (hT p hp)
    have sbF : ∀ x ∈ a :: W1.filter (fun b => decide (b ≠ a)), x ∈ W1 := fun x hx => by
      rcases List.mem_cons.mp hx with rfl | hx
      · exact aW
      · exact (List.mem_filter.mp hx).1
    have sbB : ∀ x ∈ W1, x ∈ a :: W1.filter (fun b => decide (b ≠ a)) := fun x hx => by
      by_cases z : x = a
      · exact z ▸ List.mem_cons_self
      · exact List.mem_cons_of_mem _ (List.mem_filter.mpr ⟨hx, by simpa using z⟩)
    refine ⟨by simp [w1.length, hd1.1], a, vs, W1.filter (fun b => decide (b ≠ a)), xs, cs, ds, _, fun p hp q hq => s.fn p (inT p hp) q (inT q hq), rfl, fun b hb => S1.tr b (List.mem_filter.mp hb).1, fun z => by simpa using (List.mem_filter.mp z).2,
      fun p hp => List.mem_filter.mpr ⟨S1.sub _ (S1.tab.2 p (inT p hp)).1, ?_⟩, fun p hp => S1.tab.1 p (inT p hp), ah, aq.to (Ext.refl _ _) sbF, w1.to (Ext.refl _ _) sbF, hd1.2, fun v d cs' xs' H2 hR fr h2 ht2 q2 w2 => ?_⟩
    · have : p.1 ≠ a := fun e => by
        obtain ⟨rs, z1, _⟩ := S1.tab.1 p (inT p hp)
        rw [e, ah] at z1
        cases z1
      simpa using this
    · obtain ⟨S2, ex2⟩ := S1.ownCall inT hi hv0 fr h2 ht2 (q2.to (Ext.refl _ _) sbB)
      exact kk v d W1 _ H2 hR s1 (ext_tr e1 ex2 s1) S2 (w2.to (Ext.refl _ _) sbB)
  · exact hd1.elim
end
/-! ### items of own lists -/
/-- x[e], x an own list -/
def dOwnIx (i : Nat) (b : DE) : DE := fun ρ R Er => (∃ cs, ρ[i]? = some (some (.own cs))) ∧ b ρ (fun y ρ1 => match y, ρ1[i]? with
  | .int k, some (some (.own cs)) => ∃ z, atI cs k = some z ∧ R z ρ1
  | _, _ => False) Er
/-- x[e] = v, x an own list -/
def sOwnSet (i : Nat) (ie v : DE) : DS := fun D ρ Er => (∃ cs, ρ[i]? = some (some (.own cs))) ∧ v ρ (fun d ρ1 => (∃ cs, ρ1[i]? = some (some (.own cs))) ∧ ie ρ1 (fun y ρ2 => match y, ρ2[i]? with
  | .int k, some (some (.own cs)) => 0 ≤ k ∧ k < cs.length ∧ D.nx (ρ2.set i (some (.own (cs.set k.toNat d))))
  | _, _ => False) Er) Er
section
variable {X : Cx} {EX : XK} {i : Nat} {y : Str} {py p pos ps : Pos} {e ie : Expr} {de di : DE}
theorem de_ownIx (hv : PE X (.Name y py) (tVar i)) (hb : DEx X EX e de) (hs : PlainIx e := by exact fun _ _ => rfl) : DEx X EX (.Subscript (.Name y py) e pos) (dOwnIx i de) := by
  obtain ⟨tb, pb, qb⟩ := hb.ex
  refine ⟨_, pe_ix ix_seq hv pb hs, fun s H0 W0 W σ ρ H R Er Q S eo hd k => ?_⟩
  obtain ⟨⟨cs0, h0⟩, hd⟩ := hd
  obtain ⟨v0, hv0, a, xs0, rfl, _⟩ := S.slot i _ h0
  refine ⟨_, hv0, qb s H0 W0 W σ ρ H _ Er _ S eo hd fun u d W1 ρ1 H1 hd1 s1 e1 S1 w1 => ?_⟩
  split at hd1
  · rename_i j cs hi
    cases w1
    obtain ⟨z, hz, hR⟩ := hd1
    obtain ⟨u, g1, a1, xs, rfl, aW, a0, ah, aq⟩ := S1.slot i _ hi
    rw [hv0] at g1
    cases g1
    obtain ⟨w, hw, dw⟩ := atI_dw aq hz
    exact .inl ⟨a, xs, j, w, rfl, rfl, SqL.of ah, hw, k w z W1 ρ1 H1 hR s1 e1 S1 dw⟩
  · exact hd1.elim
theorem ixN_in {n : Nat} {k : Int} (h0 : 0 ≤ k) (h1 : k < (n : Int)) : ixN n k = some k.toNat := by
  unfold ixN
  simp only [h0, if_true]
  rw [if_pos (by omega)]
theorem ds_ownSet (hv : PE X (.Name y py) (tVar i)) (he : DEx X EX e de) (hi : DEx X EX ie di)
    (mk : ∀ te ti, PE X e te → PE X ie ti → PS X (.Assign [.Subscript (.Name y py) ie ps] e pos) (tAsg te (gSub (tVar i) ti rSetL))) : DSx X EX (.Assign [.Subscript (.Name y py) ie ps] e pos) (sOwnSet i di de) := by
  obtain ⟨te, pe, qe⟩ := he.ex
  obtain ⟨ti, pi, qi⟩ := hi.ex
  refine ⟨_, mk te ti pe pi, fun s H0 W0 W σ ρ H D Er E S eo hd k => ?_⟩
  obtain ⟨_, hd⟩ := hd
  refine qe s H0 W0 W σ ρ H _ Er _ S eo hd fun v d W1 ρ1 H1 hd1 s1 e1 S1 w1 => ?_
  obtain ⟨⟨cs1, h1⟩, hd1⟩ := hd1
  obtain ⟨v0, hv0, a, xs0, rfl, _⟩ := S1.slot i _ h1
  refine ⟨_, hv0, qi s H0 W0 W1 σ ρ1 H1 _ Er _ S1 eo hd1 fun u z W2 ρ2 H2 hd2 s2 e2 S2 w2 => ?_⟩
  split at hd2
  · rename_i j cs hi2
    cases w2
    obtain ⟨j0, jl, hn⟩ := hd2
    obtain ⟨a2, xs, g1, aW, a0, ah, aq, ch⟩ := S2.changeOwn hi2
    rw [hv0] at g1
    cases g1
    obtain ⟨S3, ex3⟩ := ch (xs.set j.toNat v) (cs.set j.toNat d) (aq.set _ (w1.to e2 s2))
    exact ⟨a, xs, j, j.toNat, rfl, rfl, ah, ixN_in j0 (by rw [aq.length]; exact jl), k.nx W2 σ _ _ hn (((Step.of s1 e1).trans (Step.of s2 e2)).trans (Step.of (fun _ z => z) ex3)) S3⟩
  · exact hd2.elim
end
end DD

/-! The own list handed back by a def that sets its item 2 to nought, as an argument; a def that makes it of the script; slices of the script; own lists by list(). -/
namespace DD
open PySem L2 LamX
open PyProof.Rows (envOfC)
/-! ### x[2] = 0; return x -/
def spAnew : Sp := fun vs H Q _ => ∃ (a : Addr) (xs : List V), vs = [.ref a] ∧ H a = some (.lst xs) ∧ 2 < xs.length ∧ Q (.ref a) (upd H a (.lst (xs.set 2 (.int 0))))
section
variable {P : Program} {w : World} {K : Fg} {mg : Str → Option Value} {base : Heap}
theorem fun_anew {x qual : Str} {st : Stmt} {f : Addr} {fd : FuncData} {N ps : List Str} {k : Nat} (F : Fun K x qual st f fd) (S : FnScope N ps (defScope st)) (hn : ps.length = 1) (hN : 0 < N.length)
    (h : ∀ (cdv : Value) (A : Around) (outer : List Env) (s : Shared) (H : Hp) (E : XK), PSs (CXn P w K mg base N qual st f cdv A outer s H E) (defBody st) (tSeq (tAsg (tC (.int 0)) (gSub (tVar 0) (tC (.int 2)) rSetL)) (tRet (tVar 0)))) :
    FnG P w K mg base CX0 (k + 1) f fd ps spAnew := by
  obtain ⟨oc, od, kV, doc, pm, an, cdv, ct, osl, rfl, lk, hcd⟩ := F.ex
  refine fn_g lk hcd S (fun vs H Q E h => ?_) fun A outer s H vs Q E hr hgd hsp => ?_
  · obtain ⟨a, xs, rfl, _⟩ := h
    rw [hn]; rfl
  obtain ⟨a, xs, rfl, ha, hl, k1⟩ := hsp
  refine ⟨_, (h cdv A outer s H E).nox, ?_⟩
  have e0 : (L2.start N [V.ref a])[0]? = some (some (V.ref a)) := rfl
  exact ⟨_, e0, a, xs, 2, 2, rfl, rfl, ha, by unfold ixN; simp; omega, _, e0, k1⟩
end
/-- f(anew(own), a, ..) -/
def dFnOA (i : Nat) (T : List (Addr × Str)) (fn : PO) (a : DA) : DE := fun ρ R Er => (∃ cs, ρ[i]? = some (some (.own cs)) ∧ 2 < cs.length ∧ dFnO i T fn a (ρ.set i (some (.own (cs.set 2 (.int 0))))) R Er)
section
variable {X : Cx} {EX : XK} {j k k2 n : Nat} {x z : Str} {p pos pz p2 : Pos} {e : Expr} {es : List Expr} {da db : DA} {fn : PO}
theorem de_callOA {i : Nat} {y : Str} {py : Pos} {T : List (Addr × Str)} (c : Cal X.prog X.w X.K X.mg X.base k x (spO X.K T n fn)) (cz : Cal X.prog X.w X.K X.mg X.base k2 z spAnew) (hr : Room j X.A) (hk : k ≤ j) (hk2 : k2 ≤ j) (hgd : X.A.guards = some []) (hv : PE X (.Name y py) (tVar i)) (ha : DAx X EX es da) (hg : Gl X x := by rfl) (hgz : Gl X z := by rfl) (hdb : (x == ("__debug__" : Str)) = false := by decide) (hdz : (z == ("__debug__" : Str)) = false := by decide)
    (he : starEach (.Call (.Name z pz) [.Name y py] [] p2 :: es) X.env = (false, eval (.Call (.Name z pz) [.Name y py] [] p2) X.env) :: starEach es X.env := by rfl) (hpl : (backTo pos (starEach es X.env)).any (·.1) = false := by rfl)
    (he2 : starEach [.Name y py] X.env = (false, eval (.Name y py) X.env) :: starEach [] X.env := by rfl) (hpl2 : (backTo p2 (starEach [] X.env)).any (·.1) = false := by rfl) :
    DEx X EX (.Call (.Name x p) (.Call (.Name z pz) [.Name y py] [] p2 :: es) [] pos) (dFnOA i T (fun cs ds R Er => ds.length + 1 = n ∧ fn cs ds R Er) da) := by
  obtain ⟨f, fd, ps, F, g, kp, b⟩ := c.ex
  obtain ⟨f2, fd2, ps2, F2, g2, kp2, b2⟩ := cz.ex
  obtain ⟨t, pa, q⟩ := ha.ex
  refine ⟨_, pe_callG (E := EX) F (hr.mono hk) hgd hg g kp b passE (pa_cons (pe_callG (E := EX) F2 (hr.mono hk2) hgd hgz g2 kp2 b2 passE (pa_cons hv pa_nil he2) hdz he2 hpl2) pa he) hdb he hpl, fun s H0 W0 W σ ρ H R Er Q S eo hd kk => ?_⟩
  obtain ⟨cs0, h0, l0, ⟨cs1, h1⟩, hT, hd⟩ := hd
  obtain ⟨a, xs0, hv0, aW0, a00, ah0, aq0, ch⟩ := S.changeOwn h0
  obtain ⟨S', ex'⟩ := ch (xs0.set 2 (.int 0)) (cs0.set 2 (.int 0)) (aq0.set 2 (.int 0))
  refine ⟨_, hv0, a, xs0, rfl, ah0, by rw [aq0.length]; exact l0, ?_⟩
  refine q s H0 W0 W σ _ _ _ Er _ S' eo hd fun vs ds W1 ρ1 H1 hd1 s1 e1 S1 w1 => ?_
  show spO X.K T n fn (.ref a :: vs ++ []) H1 Q EX
  rw [List.append_nil]
  split at hd1
  · rename_i cs hi
    obtain ⟨u, g1, a1, xs, rfl, aW, a0, ah, aq⟩ := S1.slot i _ hi
    rw [hv0] at g1
    cases g1
    have inT : ∀ p ∈ T, p ∈ s.tab := fun p hp => eo.tabs p (hT p hp)
    have sbF : ∀ x ∈ a :: W1.filter (fun b => decide (b ≠ a)), x ∈ W1 := fun x hx => by
      rcases List.mem_cons.mp hx with rfl | hx
      · exact aW
      · exact (List.mem_filter.mp hx).1
    have sbB : ∀ x ∈ W1, x ∈ a :: W1.filter (fun b => decide (b ≠ a)) := fun x hx => by
      by_cases z : x = a
      · exact z ▸ List.mem_cons_self
      · exact List.mem_cons_of_mem _ (List.mem_filter.mpr ⟨hx, by simpa using z⟩)
    refine ⟨by simp [w1.length, hd1.1], a, vs, W1.filter (fun b => decide (b ≠ a)), xs, cs, ds, _, fun p hp q hq => s.fn p (inT p hp) q (inT q hq), rfl, fun b hb => S1.tr b (List.mem_filter.mp hb).1, fun z => by simpa using (List.mem_filter.mp z).2,
      fun p hp => List.mem_filter.mpr ⟨S1.sub _ (S1.tab.2 p (inT p hp)).1, ?_⟩, fun p hp => S1.tab.1 p (inT p hp), ah, aq.to (Ext.refl _ _) sbF, w1.to (Ext.refl _ _) sbF, hd1.2, fun v d cs' xs' H2 hR fr h2 ht2 q2 w2 => ?_⟩
    · have : p.1 ≠ a := fun e => by
        obtain ⟨rs, z1, _⟩ := S1.tab.1 p (inT p hp)
        rw [e, ah] at z1
        cases z1
      simpa using this
    · obtain ⟨S2, ex2⟩ := S1.ownCall inT hi hv0 fr h2 ht2 (q2.to (Ext.refl _ _) sbB)
      exact kk v d W1 _ H2 hR s1 (ext_tr (ext_tr ex' e1 (fun _ z => z)) ex2 s1) S2 (w2.to (Ext.refl _ _) sbB)
  · exact hd1.elim
end
/-! ### x = maker(script): x is an own list -/
def spM (K : Fg) (ok : List Int → Prop) (f : List Int → List PyData → Prop) : Sp := fun vs H Q _ => ∃ (c : Addr) (ns : List Int) (W : List Addr), vs = [.ref c] ∧ Wok H W ∧ ScrAt K H W c (ns.map V.int) ∧ ok ns ∧
  ∀ (p : Addr) (H' : Hp) (xs : List V) (cs : List PyData), Same H H' → H' p = none → DwA K H' W xs cs → f ns cs → Q (.ref p) (upd H' p (.lst xs))
section
variable {P : Program} {w : World} {K : Fg} {mg : Str → Option Value} {base : Heap}
theorem fun_m {x qual : Str} {st : Stmt} {f : Addr} {fd : FuncData} {N ps : List Str} {k : Nat} {ok : List Int → Prop} {fm : List Int → List PyData → Prop} (F : Fun K x qual st f fd) (S : FnScope N ps (defScope st)) (hn : ps.length = 1) (hN : 1 ≤ N.length)
    (dn : DN) (h : ∀ (cdv : Value) (A : Around) (outer : List Env) (s : Shared) (H : Hp) (E : XK), Room k (A.deeper (envOfC qual (defScope st) s.heap.objs.size f cdv)) → A.guards = some [] → DNx (CXn P w K mg base N qual st f cdv A outer s H E) E0 (defBody st) dn)
    (hd : ∀ ns, ok ns → dn (some (.scr ns) :: List.replicate (N.length - 1) none) (fm ns) noEr) :
    FnG P w K mg base CX0 (k + 1) f fd ps (spM K ok fm) := by
  obtain ⟨oc, od, kV, doc, pm, an, cdv, ct, osl, rfl, lk, hcd⟩ := F.ex
  refine fn_g lk hcd S (fun vs H Q E h => ?_) fun A outer s H vs Q E hr hgd hsp => ?_
  · obtain ⟨c, ns, W, rfl, _⟩ := h
    rw [hn]; rfl
  obtain ⟨t, p, q⟩ := (h cdv A outer s H E hr hgd).ex
  obtain ⟨c, ns, W, rfl, hW, hsc, hok, k1⟩ := hsp
  refine ⟨t, p.nox, ?_⟩
  have e0 : L2.start N [V.ref c] = some (V.ref c) :: List.replicate (N.length - 1) none := rfl
  have S0 : SOk K H W sc0 W (L2.start N [V.ref c]) (some (.scr ns) :: List.replicate (N.length - 1) none) H := by
    rw [e0]
    refine ⟨fun _ z => z, hW, fun _ z => .inl z, hW, fun _ _ h _ => h, (fun _ z => nomatch z), ⟨tabs0, fun _ h => by cases h⟩, fun i d h => ?_, fun i j v es fs h1 => ?_, by simp, fun _ z => nomatch z⟩
    · match i with
      | 0 => simp at h; subst h; exact ⟨_, rfl, c, rfl, hsc⟩
      | i + 1 =>
        simp only [List.getElem?_cons_succ, List.getElem?_replicate] at h
        split at h <;> cases h
    · exfalso
      match i with
      | 0 => simp at h1
      | i + 1 =>
        simp only [List.getElem?_cons_succ, List.getElem?_replicate] at h1
        split at h1 <;> cases h1
  refine q sc0 H W W _ _ H _ noEr _ S0 erOk_no (hd ns hok) fun vs ds a W2 ρ2 H2 hR hS ha hq => ?_
  obtain ⟨σ2, S2⟩ : ∃ σ', SOk K H W sc0 W2 σ' ρ2 H2 := hS.elim (fun z => ⟨_, z⟩) id
  exact k1 a H2 vs ds (fun b o hb => S2.frame b o hb Sc.no0) ha (hq.to (Ext.refl _ _) S2.sub) hR
end
def sOpen (i l : Nat) (ok : List Int → Prop) (f : List Int → List PyData → Prop) : DS := fun D ρ _ => ∃ ns, ρ[l]? = some (some (.scr ns)) ∧ ok ns ∧ ∀ cs, f ns cs → D.nx (ρ.set i (some (.own cs)))
section
variable {X : Cx} {EX : XK} {j0 k i l : Nat} {x y z : Str} {e : Expr} {px py p2 p3 p pos : Pos} {ok : List Int → Prop} {fm : List Int → List PyData → Prop}
theorem ds_open (c : Cal X.prog X.w X.K X.mg X.base k x (spM X.K ok fm)) (hr : Room j0 X.A) (hk : k ≤ j0) (hgd : X.A.guards = some [])
    (hv : PE X (.Name y py) (tVar l)) (mk : ∀ te, PE X (.Call (.Name x p2) [.Name y py] [] p3) te → PS X (.Assign [.Name z px] (.Call (.Name x p2) [.Name y py] [] p3) pos) (tAsg te (gName i))) (i0 : 0 < i := by decide)
    (hg : Gl X x := by rfl) (hdb : (x == ("__debug__" : Str)) = false := by decide)
    (he : starEach [.Name y py] X.env = (false, eval (.Name y py) X.env) :: starEach [] X.env := by rfl) (hpl : (backTo p3 (starEach [] X.env)).any (·.1) = false := by rfl) :
    DSx X EX (.Assign [.Name z px] (.Call (.Name x p2) [.Name y py] [] p3) pos) (sOpen i l ok fm) := by
  obtain ⟨fa, fd, ps, F, g, kp, bd⟩ := c.ex
  refine ⟨_, mk _ (pe_callG (E := EX) F (hr.mono hk) hgd hg g kp bd passE (pa_cons hv pa_nil he) hdb he hpl), fun s H0 W0 W σ ρ H D Er E S eo hd kk => ?_⟩
  obtain ⟨ns, hl, hok, hd⟩ := hd
  obtain ⟨v, g1, c, rfl, hc⟩ := S.slot l _ hl
  refine ⟨_, g1, c, ns, W, rfl, S.tr, hc, hok, fun p H' xs cs sm hp q hf => ?_⟩
  have S1 := S.same sm
  obtain ⟨S2, no⟩ := S1.newOwn (xs := xs) hp
  exact kk.nx _ _ _ _ (hd cs hf) ((Step.of (fun _ z => z) (Ext.same sm)).trans (step_new hp)) (S2.setOwn List.mem_cons_self (S1.fresh0 hp) upd_same (DwA.new hp q) no i0)
/-! ### slices of the script -/
def cutI (ns : List Int) (lo hi : Option Int) : List Int := (ns.drop (HT.sIx ns.length 0 lo)).take (HT.sIx ns.length ns.length hi - HT.sIx ns.length 0 lo)
def dScrSl (i : Nat) (l u : DP) : DE := fun ρ R Er => (∃ ns, ρ[i]? = some (some (.scr ns))) ∧ l ρ (fun lo ρ1 => u ρ1 (fun hi ρ2 => match ρ2[i]? with
  | some (some (.scr ns)) => R (.list ((cutI ns lo hi).map .int)) ρ2
  | _ => False) Er) Er
theorem scrCut {K : Fg} {H : Hp} {W : List Addr} {ns : List Int} {lo hi : Option Int} : DwA K H W (cutV (ns.map V.int) lo hi) ((cutI ns lo hi).map .int) := by
  unfold cutV cutI
  rw [List.length_map, ← List.map_drop, ← List.map_take]
  generalize (List.take _ _ : List Int) = ms
  induction ms with
  | nil => exact .nil
  | cons m r ih => exact .cons (.int m) ih
theorem de_scrSl {lo hi : Option Expr} {dl dh : DP} (hv : PE X (.Name y py) (tVar i)) (hl : DPx X EX lo dl) (hh : DPx X EX hi dh) : DEx X EX (.Subscript (.Name y py) (.Slice lo hi none p2) pos) (dScrSl i dl dh) := by
  obtain ⟨tl, pl, ql⟩ := hl.ex
  obtain ⟨th, ph, qh⟩ := hh.ex
  refine ⟨_, pe_slice sl_list hv pl ph, fun s H0 W0 W σ ρ H R Er Q S eo hd k => ?_⟩
  obtain ⟨⟨ns0, h0⟩, hd⟩ := hd
  obtain ⟨v0, g0, a0, rfl, _⟩ := S.slot i _ h0
  refine ⟨_, g0, ?_⟩
  refine ql s H0 W0 W σ ρ H _ Er _ S eo hd fun l W2 ρ2 H2 hd2 s2 e2 S2 => ?_
  refine qh s H0 W0 W2 σ ρ2 H2 _ Er _ S2 eo hd2 fun u W3 ρ3 H3 hd3 s3 e3 S3 => ?_
  split at hd3
  · rename_i ns hi
    obtain ⟨v, g1, a1, rfl, q1⟩ := S3.slot i _ hi
    rw [g0] at g1
    cases g1
    exact ⟨a0, _, rfl, q1.sq, fun p hp => k _ _ W3 ρ3 _ hd3 (sub_tr s3 s2) ((ext_tr e2 e3 s2).trans (Ext.same (same_upd hp))) (S3.alloc hp) (Dw.newLst hp (S3.fresh hp) scrCut)⟩
  · exact hd3.elim
/-! ### x = list(e): x is an own list -/
def sSetOL (i : Nat) (a : DE) : DS := fun D ρ Er => a ρ (fun d ρ1 => match fListOf [d] with | some (.list ds) => D.nx (ρ1.set i (some (.own ds))) | _ => False) Er
theorem ds_setOL {da : DE} (mk : ∀ te, PE X (.Call (.Name "list" p) [e] [] p2) te → PS X (.Assign [.Name z px] (.Call (.Name "list" p) [e] [] p2) pos) (tAsg te (gName i))) (hm : X.mg "list" = none) (ha : DEx X EX e da) (i0 : 0 < i := by decide) (hg : Gl X "list" := by rfl)
    (h1 : starEach [e] X.env = (false, eval e X.env) :: starEach [] X.env := by rfl) (hpl : (backTo p2 (starEach [] X.env)).any (·.1) = false := by rfl) : DSx X EX (.Assign [.Name z px] (.Call (.Name "list" p) [e] [] p2) pos) (sSetOL i da) := by
  obtain ⟨t, pp, q⟩ := ha.ex
  refine ⟨_, mk _ (pe_callTy call_list_of hg hm PyProof.Rows.boot_list (pa_cons pp pa_nil h1) (he := h1) (hpl := hpl)), fun s H0 W0 W σ ρ H D Er E S eo hd k => ?_⟩
  refine q s H0 W0 W σ ρ H _ Er _ S eo hd fun v d W1 ρ1 H1 hd1 s1 e1 S1 w1 => ?_
  have go : ∀ (xs : List V) (ds : List PyData), DwA X.K H1 W1 xs ds → D.nx (ρ1.set i (some (.own ds))) → ∀ l, H1 l = none → E.nx (σ.set i (some (.ref l))) (upd H1 l (.lst xs)) := by
    intro xs ds qa hnx l hl
    obtain ⟨S2, no2⟩ := S1.newOwn (xs := xs) hl
    exact k.nx _ _ _ _ hnx ((Step.of s1 e1).trans (step_new hl)) (S2.setOwn List.mem_cons_self (S1.fresh0 hl) upd_same (DwA.new hl qa) no2 i0)
  cases d with
  | list ds =>
    obtain ⟨a, rfl⟩ := w1.lstV
    obtain ⟨xs, hx, qa⟩ := w1.sqL
    exact ⟨a, xs, rfl, .inl hx, fun l hl => go xs ds qa hd1 l hl⟩
  | tuple ds =>
    obtain ⟨a, rfl⟩ := w1.tupV
    obtain ⟨xs, hx, qa⟩ := w1.sqT
    exact ⟨a, xs, rfl, .inr hx, fun l hl => go xs ds qa hd1 l hl⟩
  | _ => exact hd1.elim
end
end DD

/-! in, not in of data; sums, the greatest and the least of a list; sorted pairs; chains; a module's constants. -/
namespace DD
open PySem L2
theorem units65 {k : Nat} {A : Around} (r : Room k A) : A.units + 65 < cLine := by have := r.un; omega
/-- x in a list or a tuple -/
def fInG : D2
  | d, .list es => if SeqAt.shaped d && SeqAt.shaped (.list es) then some (.bool (es.any fun z => PyData.eqv z d)) else none
  | d, .tuple es => if SeqAt.shaped d && SeqAt.shaped (.tuple es) then some (.bool (es.any fun z => PyData.eqv z d)) else none
  | _, _ => none
def fNinG : D2
  | d, .list es => if SeqAt.shaped d && SeqAt.shaped (.list es) then some (.bool (!es.any fun z => PyData.eqv z d)) else none
  | d, .tuple es => if SeqAt.shaped d && SeqAt.shaped (.tuple es) then some (.bool (!es.any fun z => PyData.eqv z d)) else none
  | _, _ => none
def rInG (K : Fg) : R2 := fun x y H Q => ∃ W d es, Dw K H W x d ∧ (Dw K H W y (.list es) ∧ SeqAt.shaped (.list es) = true ∨ Dw K H W y (.tuple es) ∧ SeqAt.shaped (.tuple es) = true) ∧ SeqAt.shaped d = true ∧ Q (.bl (es.any fun z => PyData.eqv z d)) H
def rNinG (K : Fg) : R2 := fun x y H Q => ∃ W d es, Dw K H W x d ∧ (Dw K H W y (.list es) ∧ SeqAt.shaped (.list es) = true ∨ Dw K H W y (.tuple es) ∧ SeqAt.shaped (.tuple es) = true) ∧ SeqAt.shaped d = true ∧ Q (.bl (!es.any fun z => PyData.eqv z d)) H
section
variable {X : Cx} {EX : XK} {a b c e : Expr} {es : List Expr} {da db dc : DE} {dr : DA} {p pos : Pos}
theorem op_inG (hu : X.A.units + 65 < cLine) : OpR X (compareOp .In) (rInG X.K) := by
  intro pins s σ H x y v u Q I rx ry h
  obtain ⟨W, d, es, hd, he, sd, q⟩ := h
  obtain ⟨as, r1⟩ := Dw.reads I d x v (shaped_dict sd) hd rx
  rcases he with ⟨he, se⟩ | ⟨he, se⟩
  · obtain ⟨bs, r2⟩ := Dw.reads I (.list es) y u (shaped_dict se) he ry
    exact SeqAt.in_list_reads r2 r1 (SeqAt.canLay_of_shaped se) (SeqAt.canLay_of_shaped sd) (PyProof.Rows.room_in_shaped sd hu) ⟨.bl _, H, I, rfl, q⟩
  · obtain ⟨bs, r2⟩ := Dw.reads I (.tuple es) y u (shaped_dict se) he ry
    exact SeqAt.in_tuple_reads r2 r1 (SeqAt.canLay_of_shaped se) (SeqAt.canLay_of_shaped sd) (PyProof.Rows.room_in_shaped sd hu) ⟨.bl _, H, I, rfl, q⟩
theorem op_ninG (hu : X.A.units + 65 < cLine) : OpR X (compareOp .NotIn) (rNinG X.K) := by
  intro pins s σ H x y v u Q I rx ry h
  obtain ⟨W, d, es, hd, he, sd, q⟩ := h
  obtain ⟨as, r1⟩ := Dw.reads I d x v (shaped_dict sd) hd rx
  rcases he with ⟨he, se⟩ | ⟨he, se⟩
  · obtain ⟨bs, r2⟩ := Dw.reads I (.list es) y u (shaped_dict se) he ry
    exact SeqAt.notIn_list_reads r2 r1 (SeqAt.canLay_of_shaped se) (SeqAt.canLay_of_shaped sd) (PyProof.Rows.room_in_shaped sd hu) ⟨.bl _, H, I, rfl, q⟩
  · obtain ⟨bs, r2⟩ := Dw.reads I (.tuple es) y u (shaped_dict se) he ry
    exact SeqAt.notIn_tuple_reads r2 r1 (SeqAt.canLay_of_shaped se) (SeqAt.canLay_of_shaped sd) (PyProof.Rows.room_in_shaped sd hu) ⟨.bl _, H, I, rfl, q⟩
theorem r2_inG {K : Fg} : R2Ok K (rInG K) fInG := by
  intro H W x y d e z Q hx hy hz k fr
  unfold fInG at hz
  split at hz
  · split at hz
    · rename_i hs
      cases hz
      simp only [Bool.and_eq_true] at hs
      exact ⟨W, _, _, hx, .inl ⟨hy, hs.2⟩, hs.1, k _ H (Same.refl H) fr (.bl _)⟩
    · cases hz
  · split at hz
    · rename_i hs
      cases hz
      simp only [Bool.and_eq_true] at hs
      exact ⟨W, _, _, hx, .inr ⟨hy, hs.2⟩, hs.1, k _ H (Same.refl H) fr (.bl _)⟩
    · cases hz
  · cases hz
theorem r2_ninG {K : Fg} : R2Ok K (rNinG K) fNinG := by
  intro H W x y d e z Q hx hy hz k fr
  unfold fNinG at hz
  split at hz
  · split at hz
    · rename_i hs
      cases hz
      simp only [Bool.and_eq_true] at hs
      exact ⟨W, _, _, hx, .inl ⟨hy, hs.2⟩, hs.1, k _ H (Same.refl H) fr (.bl _)⟩
    · cases hz
  · split at hz
    · rename_i hs
      cases hz
      simp only [Bool.and_eq_true] at hs
      exact ⟨W, _, _, hx, .inr ⟨hy, hs.2⟩, hs.1, k _ H (Same.refl H) fr (.bl _)⟩
    · cases hz
  · cases hz
theorem de_inG (hu : X.A.units + 65 < cLine) (ha : DEx X EX a da) (hb : DEx X EX b db) (nm : behindInMarks .In b = false := by with_unfolding_all rfl) : DEx X EX (.Compare a [.In] [b] pos) (dOp fInG da db) := op_ok r2_inG ha hb fun _ _ p q => pe_cmpR (op_inG hu) p q nm
theorem dt_inG (hu : X.A.units + 65 < cLine) (ha : DEx X EX a da) (hb : DEx X EX b db) (nm : behindInMarks .In b = false := by with_unfolding_all rfl) : DTx X EX (.Compare a [.In] [b] pos) (dTOp fInG da db) := top_ok r2_inG ha hb fun _ _ p q => pt_cmpR (op_inG hu) p q nm
theorem de_ninG (hu : X.A.units + 65 < cLine) (ha : DEx X EX a da) (hb : DEx X EX b db) (nm : behindInMarks .NotIn b = false := by with_unfolding_all rfl) : DEx X EX (.Compare a [.NotIn] [b] pos) (dOp fNinG da db) := op_ok r2_ninG ha hb fun _ _ p q => pe_cmpR (op_ninG hu) p q nm
theorem dt_ninG (hu : X.A.units + 65 < cLine) (ha : DEx X EX a da) (hb : DEx X EX b db) (nm : behindInMarks .NotIn b = false := by with_unfolding_all rfl) : DTx X EX (.Compare a [.NotIn] [b] pos) (dTOp fNinG da db) := top_ok r2_ninG ha hb fun _ _ p q => pt_cmpR (op_ninG hu) p q nm
/-! ### chains -/
theorem de_lelt (ha : DEx X EX a da) (hb : DEx X EX b db) (hc : DEx X EX c dc) (hm : lastMarks [CmpOp.LtE, CmpOp.Lt] [b, c] = false := by with_unfolding_all rfl) : DEx X EX (.Compare a [.LtE, .Lt] [b, c] pos) (dChain fLe fLt da db dc) := chain_ok r2_bool r2_bool ha hb hc fun _ _ _ p q r => pe_chain op_le op_lt p q r hm
theorem dt_lelt (ha : DEx X EX a da) (hb : DEx X EX b db) (hc : DEx X EX c dc) (hm : lastMarks [CmpOp.LtE, CmpOp.Lt] [b, c] = false := by with_unfolding_all rfl) : DTx X EX (.Compare a [.LtE, .Lt] [b, c] pos) (dTChain fLe fLt da db dc) := tchain_ok r2_bool r2_bool ha hb hc fun _ _ _ p q r => pt_chain op_le op_lt p q r hm
theorem de_ltle (ha : DEx X EX a da) (hb : DEx X EX b db) (hc : DEx X EX c dc) (hm : lastMarks [CmpOp.Lt, CmpOp.LtE] [b, c] = false := by with_unfolding_all rfl) : DEx X EX (.Compare a [.Lt, .LtE] [b, c] pos) (dChain fLt fLe da db dc) := chain_ok r2_bool r2_bool ha hb hc fun _ _ _ p q r => pe_chain op_lt op_le p q r hm
theorem dt_ltle (ha : DEx X EX a da) (hb : DEx X EX b db) (hc : DEx X EX c dc) (hm : lastMarks [CmpOp.Lt, CmpOp.LtE] [b, c] = false := by with_unfolding_all rfl) : DTx X EX (.Compare a [.Lt, .LtE] [b, c] pos) (dTChain fLt fLe da db dc) := tchain_ok r2_bool r2_bool ha hb hc fun _ _ _ p q r => pt_chain op_lt op_le p q r hm
theorem de_ltlt (ha : DEx X EX a da) (hb : DEx X EX b db) (hc : DEx X EX c dc) (hm : lastMarks [CmpOp.Lt, CmpOp.Lt] [b, c] = false := by with_unfolding_all rfl) : DEx X EX (.Compare a [.Lt, .Lt] [b, c] pos) (dChain fLt fLt da db dc) := chain_ok r2_bool r2_bool ha hb hc fun _ _ _ p q r => pe_chain op_lt op_lt p q r hm
theorem dt_ltlt (ha : DEx X EX a da) (hb : DEx X EX b db) (hc : DEx X EX c dc) (hm : lastMarks [CmpOp.Lt, CmpOp.Lt] [b, c] = false := by with_unfolding_all rfl) : DTx X EX (.Compare a [.Lt, .Lt] [b, c] pos) (dTChain fLt fLt da db dc) := tchain_ok r2_bool r2_bool ha hb hc fun _ _ _ p q r => pt_chain op_lt op_lt p q r hm
/-! ### sum, max, min of a list of ints -/
def intsD : List PyData → Option (List Int)
  | [] => some []
  | .int i :: r => (intsD r).map (i :: ·)
  | _ => none
theorem intsD_of : ∀ {ds : List PyData} {ns : List Int}, intsD ds = some ns → ds = ns.map .int
  | [], ns, h => by cases h; rfl
  | d :: r, ns, h => by
    cases d with
    | int i =>
      simp only [intsD, Option.map_eq_some_iff] at h
      obtain ⟨ms, h, rfl⟩ := h
      rw [intsD_of h]; rfl
    | _ => cases h
theorem intsD_map : ∀ (ns : List Int), intsD (ns.map .int) = some ns
  | [] => rfl
  | n :: r => by simp only [List.map_cons, intsD, intsD_map r, Option.map_some]
def fSum : DF
  | [.list xs] => (intsD xs).map fun ns => .int ns.sum
  | _ => none
theorem ra_sum {K : Fg} : RAOk K (rSum K) fSum := by
  intro H W vs ds z Q hq hz k fr
  unfold fSum at hz
  split at hz
  · simp only [Option.map_eq_some_iff] at hz
    obtain ⟨ns, h, rfl⟩ := hz
    cases hq with
    | cons h1 h2 =>
      cases h2
      obtain ⟨a, rfl⟩ := h1.lstV
      obtain ⟨xs, e1, q1⟩ := h1.sqL
      rw [intsD_of h] at q1
      rw [ints_dw q1] at e1
      exact ⟨a, ns, rfl, e1, k _ H (Same.refl H) (.int _)⟩
  · cases hz
theorem de_sum (hc : X.calm = true) (hm : X.mg "sum" = none) (ha : DAx X EX (e :: es) dr) (hg : Gl X "sum" := by rfl) (he : starEach (e :: es) X.env = (false, eval e X.env) :: starEach es X.env := by rfl) (hpl : (backTo pos (starEach es X.env)).any (·.1) = false := by rfl) (hb : bootBuiltins "sum" = some (.builtin "sum") := by decide +kernel) :
    DEx X EX (.Call (.Name "sum" p) (e :: es) [] pos) (dCall fSum dr) := call_ok ra_sum ha fun t q => pe_callB (cr_sum hc) hg hm hb q (he := he) (hpl := hpl)
/-- max(list), min(list): read by what they must be -/
def dMaxL (a : DE) : DE := fun ρ R Er => a ρ (fun d ρ1 => ∃ ns : List Int, d = .list (ns.map .int) ∧ 0 < ns.length ∧ ∀ m, m ∈ ns → (∀ y, y ∈ ns → y ≤ m) → R (.int m) ρ1) Er
def dMinL (a : DE) : DE := fun ρ R Er => a ρ (fun d ρ1 => ∃ ns : List Int, d = .list (ns.map .int) ∧ 0 < ns.length ∧ ∀ m, m ∈ ns → (∀ y, y ∈ ns → m ≤ y) → R (.int m) ρ1) Er
theorem de_maxL (hc : X.calm = true) (hm : X.mg "max" = none) (ha : DEx X EX e da) (hg : Gl X "max" := by rfl) (he : starEach [e] X.env = (false, eval e X.env) :: starEach [] X.env := by rfl) (hpl : (backTo pos (starEach [] X.env)).any (·.1) = false := by rfl) :
    DEx X EX (.Call (.Name "max" p) [e] [] pos) (dMaxL da) := by
  obtain ⟨t, pa, q⟩ := ha.ex
  refine ⟨_, pe_callB (cr_max hc) hg hm PyProof.Rows.boot_max (pa_cons pa pa_nil he) (he := he) (hpl := hpl), fun s H0 W0 W σ ρ H R Er Q S eo hd k => ?_⟩
  refine q s H0 W0 W σ ρ H _ Er _ S eo hd fun v d W1 ρ1 H1 hd1 s1 e1 S1 w1 => ?_
  obtain ⟨ns, rfl, h0, hR⟩ := hd1
  obtain ⟨a, rfl⟩ := w1.lstV
  obtain ⟨xs, h1, q1⟩ := w1.sqL
  rw [ints_dw q1] at h1
  exact ⟨a, ns, rfl, h1, h0, fun m hm hy => k _ _ W1 ρ1 H1 (hR m hm hy) s1 e1 S1 (.int _)⟩
theorem de_minL (hc : X.calm = true) (hm : X.mg "min" = none) (ha : DEx X EX e da) (hg : Gl X "min" := by rfl) (he : starEach [e] X.env = (false, eval e X.env) :: starEach [] X.env := by rfl) (hpl : (backTo pos (starEach [] X.env)).any (·.1) = false := by rfl) :
    DEx X EX (.Call (.Name "min" p) [e] [] pos) (dMinL da) := by
  obtain ⟨t, pa, q⟩ := ha.ex
  refine ⟨_, pe_callB (cr_min hc) hg hm PyProof.Rows.boot_min (pa_cons pa pa_nil he) (he := he) (hpl := hpl), fun s H0 W0 W σ ρ H R Er Q S eo hd k => ?_⟩
  refine q s H0 W0 W σ ρ H _ Er _ S eo hd fun v d W1 ρ1 H1 hd1 s1 e1 S1 w1 => ?_
  obtain ⟨ns, rfl, h0, hR⟩ := hd1
  obtain ⟨a, rfl⟩ := w1.lstV
  obtain ⟨xs, h1, q1⟩ := w1.sqL
  rw [ints_dw q1] at h1
  exact ⟨a, ns, rfl, h1, h0, fun m hm hy => k _ _ W1 ρ1 H1 (hR m hm hy) s1 e1 S1 (.int _)⟩
/-! ### a module's constants -/
theorem de_gstrE {x : Str} {z : Str} (hg : Gl X x) (h : ∃ t, X.mg x = some (.str z t)) (hd : (x == ("__debug__" : Str)) = false := by decide) : DEx X EX (.Name x pos) (dC (.str z)) := by
  obtain ⟨t, hm⟩ := h
  exact dC_ok (pe_glob (v := .str z) hg hm ⟨t, rfl⟩ hd) fun _ _ _ => .str z
/-- a tuple of ints or texts of the written part -/
structure GTup (K : Fg) (mg : Str → Option Value) (x : Str) (ds : List PyData) : Prop where
  ex : ∃ (a : Addr) (xs : List V), mg x = some (.ref a) ∧ KTup K a xs ∧ ∀ H W, DwA K H W xs ds
theorem de_gtupE {x : Str} {ds : List PyData} (hg : Gl X x) (h : GTup X.K X.mg x ds) (hd : (x == ("__debug__" : Str)) = false := by decide) : DEx X EX (.Name x pos) (dC (.tuple ds)) := by
  obtain ⟨a, xs, hm, kt, q⟩ := h.ex
  exact ⟨_, pe_glob (v := .ref a) hg hm rfl hd, fun s H0 W0 W σ ρ H R Er Q S eo hd k => k _ _ W ρ H hd (fun _ z => z) (Ext.refl _ _) S (.ktup kt (q _ _))⟩
end
end DD

/-! sorted of pairs of ints; two items of an own list change places; dicts of pairs. -/
namespace DD
open PySem L2
abbrev PairP (K : Fg) (H : Hp) (x : V) (p : Int × Int) : Prop := ∃ t, x = V.ref t ∧ SqT K H t [.int p.1, .int p.2]
def rSortedPD (K : Fg) : List V → Hp → VK → Prop := fun vs H Q => ∃ (a : Addr) (xs : List V) (ps : List (Int × Int)), vs = [.ref a] ∧ SqL K H a xs ∧ xs.length = ps.length ∧ (∀ z ∈ xs.zip ps, PairP K H z.1 z.2) ∧
  ∀ (zs : List (V × (Int × Int))) (p : Addr), zs.Perm (xs.zip ps) → (zs.map (·.2)).Pairwise (fun a b => SrtO.lexB b a = false) → H p = none → Q (.ref p) (upd H p (.lst (zs.map (·.1))))
theorem zip_self {xs : List V} {ps : List (Int × Int)} {k : V → Int × Int} (hl : xs.length = ps.length) (h : ∀ z ∈ xs.zip ps, k z.1 = z.2) : xs.zip ps = xs.map fun x => (x, k x) := by
  induction xs generalizing ps with
  | nil => rfl
  | cons x r ih =>
    cases ps with
    | nil => cases hl
    | cons p q =>
      rw [List.zip_cons_cons, List.map_cons, ih (by simpa using hl) fun z hz => h z (by rw [List.zip_cons_cons]; exact List.mem_cons_of_mem _ hz), h (x, p) (by simp)]
section
variable {X : Cx} {EX : XK} {e : Expr} {da : DE} {p pos : Pos}
open Classical in
theorem cr_sortedPD : CallR X (.builtin "sorted") (rSortedPD X.K) := by
  intro pins s σ H vs us Q I r h
  obtain ⟨a, xs, ps, rfl, hs, hlen, hx, q⟩ := h
  obtain ⟨its, rv, hl, hz⟩ := I.list hs
  obtain ⟨u, rfl, ru⟩ := vals1 r
  obtain rfl : u = Value.ref a := ru
  let k : V → Int × Int := fun x => if h : ∃ p, PairP X.K H x p then h.choose else (0, 0)
  have kp : ∀ x p, PairP X.K H x p → k x = p := fun x p hp => by
    have hh : ∃ p, PairP X.K H x p := ⟨p, hp⟩
    have e : k x = hh.choose := dif_pos hh
    obtain ⟨t, e1, s1⟩ := hp
    obtain ⟨t', e2, s2⟩ := hh.choose_spec
    rw [e1] at e2
    cases e2
    have := I.tuple_inj s2 s1
    rw [e]
    simp only [List.cons.injEq, V.int.injEq] at this
    exact Prod.ext this.1 this.2.1
  have ez : xs.zip ps = xs.map fun x => (x, k x) := zip_self hlen fun z hz => kp _ _ (hx z hz)
  have hx' : ∀ x ∈ xs, PairP X.K H x (k x) := fun x hm => by
    have hm' : (x, k x) ∈ xs.zip ps := by rw [ez]; exact List.mem_map.mpr ⟨x, hm, rfl⟩
    exact hx _ hm'
  obtain ⟨e1, e2⟩ := refs_back rv fun x m => by
    obtain ⟨t, e, _⟩ := hx' x m
    exact ⟨t, e⟩
  refine SrtO.sorted_pairsO (k := fun u => k (backV u)) hl.isList (by rw [← rv.length]; exact hz) (fun v hv => ?_) fun h' d out h1 h2 kp' hd hn => ?_
  · obtain ⟨t, rfl⟩ := e2 v hv
    have hm : V.ref t ∈ xs := by rw [e1]; exact List.mem_map.mpr ⟨_, hv, rfl⟩
    obtain ⟨t', e, ht⟩ := hx' _ hm
    cases e
    obtain ⟨its2, r2, ⟨o, ho, hc, n, hd⟩, _⟩ := I.tuple ht
    obtain ⟨u1, u2, rfl, ri, rj⟩ := vals2 r2
    obtain ⟨t1, rfl⟩ := ri
    obtain ⟨t2, rfl⟩ := rj
    exact ⟨t, o, t1, t2, n, rfl, ho, hc, hd⟩
  · have h3 : ∀ u ∈ out, ∃ a, u = Value.ref a := fun u hu => e2 u (h2.perm.mem_iff.mp hu)
    obtain ⟨n, hn⟩ := hn
    have hp : (out.map backV).Perm xs := by rw [e1]; exact h2.perm.map backV
    have so : SrtO.Srtd (ltP k) (out.map backV) := SrtO.srtd_map h1
    have qq := q ((out.map backV).map fun x => (x, k x)) d (by rw [ez]; exact hp.map _) (by
      rw [List.map_map]
      exact List.pairwise_map.mpr so) (I.hok.fresh hd)
    rw [List.map_map] at qq
    have ei : (out.map backV).map ((fun z : V × (Int × Int) => z.1) ∘ fun x => (x, k x)) = out.map backV := by
      rw [show ((fun z : V × (Int × Int) => z.1) ∘ fun x => (x, k x)) = id from rfl, List.map_id]
    rw [ei] at qq
    refine ⟨.ref d, upd H d (.lst (out.map backV)), I.laid (t' := s.toks) kp' hd ⟨?_, out, n, vals_back h3, hn⟩, rfl, qq⟩
    rw [hp.length_eq]
    exact hz
abbrev pairD (x : Int × Int) : PyData := .tuple [.int x.1, .int x.2]
/-- sorted(list of pairs of ints): read by what it must be -/
def dSortedP (a : DE) : DE := fun ρ R Er => a ρ (fun d ρ1 => ∃ ps : List (Int × Int), d = .list (ps.map pairD) ∧ ∀ qs : List (Int × Int), qs.Perm ps → qs.Pairwise (fun a b => SrtO.lexB b a = false) → R (.list (qs.map pairD)) ρ1) Er
theorem pairs_dw {K : Fg} {H : Hp} {W : List Addr} : ∀ {xs : List V} {ps : List (Int × Int)}, DwA K H W xs (ps.map pairD) → xs.length = ps.length ∧ (∀ z ∈ xs.zip ps, PairP K H z.1 z.2 ∧ Dw K H W z.1 (pairD z.2))
  | _, [], h => by cases h; exact ⟨rfl, fun z hz => by simp at hz⟩
  | _, p :: ps, h => by
    cases h with
    | cons a b =>
      obtain ⟨h1, h2⟩ := pairs_dw b
      refine ⟨by simp [h1], fun z hz => ?_⟩
      rw [List.zip_cons_cons] at hz
      rcases List.mem_cons.mp hz with rfl | hz
      · refine ⟨?_, a⟩
        obtain ⟨t, rfl⟩ := a.tupV
        obtain ⟨ys, hs, q⟩ := a.sqT
        cases q with
        | cons q1 q2 => cases q2 with
          | cons q3 q4 => cases q4; cases q1; cases q3; exact ⟨t, rfl, hs⟩
      · exact h2 z hz
theorem de_sortedP (ha : DEx X EX e da) (hm : X.mg "sorted" = none) (mk : ∀ te, PE X e te → PE X (.Call (.Name "sorted" p) [e] [] pos) (tCB (rSortedPD X.K) (tCons te tNil))) : DEx X EX (.Call (.Name "sorted" p) [e] [] pos) (dSortedP da) := by
  obtain ⟨ta, pa, qa⟩ := ha.ex
  refine ⟨_, mk ta pa, fun s H0 W0 W σ ρ H R Er Q S eo hd k => ?_⟩
  refine qa s H0 W0 W σ ρ H _ Er _ S eo hd fun v d W1 ρ1 H1 hd1 s1 e1 S1 w1 => ?_
  obtain ⟨ps, rfl, hR⟩ := hd1
  obtain ⟨a, rfl⟩ := w1.lstV
  obtain ⟨xs, h1, q⟩ := w1.sqL
  obtain ⟨hl, hp⟩ := pairs_dw q
  refine ⟨a, xs, ps, rfl, h1, hl, fun z hz => (hp z hz).1, fun zs b pm so hb => ?_⟩
  have dw : DwA X.K H1 W1 (zs.map (·.1)) ((zs.map (·.2)).map pairD) := by
    have hz : ∀ z ∈ zs, Dw X.K H1 W1 z.1 (pairD z.2) := fun z m => (hp z (pm.mem_iff.mp m)).2
    clear pm so
    induction zs with
    | nil => exact .nil
    | cons z r ih => exact .cons (hz z List.mem_cons_self) (ih fun y m => hz y (List.mem_cons_of_mem _ m))
  have pm2 : (zs.map (·.2)).Perm ps := by
    have := pm.map (·.2)
    rwa [List.map_snd_zip (Nat.le_of_eq hl.symm)] at this
  exact k _ _ W1 ρ1 _ (hR _ pm2 so) s1 (e1.trans (Ext.same (same_upd hb))) (S1.alloc hb) (Dw.newLst hb (S1.fresh hb) dw)
/-! ### x[i], x[j] = a, b -/
def sSwap (i : Nat) (a : DA) (i1 i2 : DE) : DS := fun N ρ Er => (∃ cs, ρ[i]? = some (some (.own cs))) ∧ a ρ (fun ds ρ1 => ∃ x y, ds = [x, y] ∧ (∃ cs, ρ1[i]? = some (some (.own cs))) ∧ i1 ρ1 (fun z ρ2 => match z, ρ2[i]? with
  | .int k, some (some (.own cs)) => 0 ≤ k ∧ k < cs.length ∧ i2 (ρ2.set i (some (.own (cs.set k.toNat x)))) (fun z2 ρ3 => match z2, ρ3[i]? with
    | .int k2, some (some (.own cs2)) => 0 ≤ k2 ∧ k2 < cs2.length ∧ N.nx (ρ3.set i (some (.own (cs2.set k2.toNat y))))
    | _, _ => False) Er
  | _, _ => False) Er) Er
theorem ds_swap {i : Nat} {st : Stmt} {es : List Expr} {e1 e2 : Expr} {dr : DA} {d1 d2 : DE} (ha : DAx X EX es dr) (h1 : DEx X EX e1 d1) (h2 : DEx X EX e2 d2)
    (mk : ∀ ta t1 t2, PA X es ta → PE X e1 t1 → PE X e2 t2 → PS X st (tAsg (tTup ta) (gTup X.K 2 (gCons (gSub (tVar i) t1 rSetL) (gCons (gSub (tVar i) t2 rSetL) gNil))))) : DSx X EX st (sSwap i dr d1 d2) := by
  obtain ⟨ta, pa, qa⟩ := ha.ex
  obtain ⟨t1, p1, q1⟩ := h1.ex
  obtain ⟨t2, p2, q2⟩ := h2.ex
  refine ⟨_, mk ta t1 t2 pa p1 p2, fun s H0 W0 W σ ρ H D Er E S eo hd k => ?_⟩
  obtain ⟨_, hd⟩ := hd
  refine qa s H0 W0 W σ ρ H _ Er _ S eo hd fun vs ds W1 ρ1 H1 hd1 s1 e1 S1 w1 => ?_
  obtain ⟨x, y, rfl, ⟨cs1, c1⟩, hd1⟩ := hd1
  cases w1 with
  | cons wx w1 => cases w1 with
    | cons wy w1 =>
      cases w1
      rename_i vx vy
      refine ⟨by show 2 ≤ sizeLine; rw [sizeLine_eq]; omega, fun b hb => ⟨b, [vx, vy], rfl, .inl (.inl upd_same), rfl, vx, [vy], rfl, ?_⟩⟩
      have S1' := S1.alloc (o := .tup [vx, vy]) hb
      have ex1 : Ext W1 H1 (upd H1 b (.tup [vx, vy])) := Ext.same (same_upd hb)
      obtain ⟨v0, hv0, a, xs0, rfl, _⟩ := S1'.slot i _ c1
      refine ⟨_, hv0, ?_⟩
      refine q1 s H0 W0 W1 σ ρ1 _ _ Er _ S1' eo hd1 fun u z W2 ρ2 H2 hd2 s2 e2 S2 w2 => ?_
      split at hd2
      · rename_i k1 cs hi2
        cases w2
        obtain ⟨j0, jl, hd2⟩ := hd2
        obtain ⟨a2, xs, g1, aW, a0, ah, aq, ch⟩ := S2.changeOwn hi2
        rw [hv0] at g1
        cases g1
        have wx2 : Dw X.K H2 W2 vx x := (wx.to ex1 fun _ z => z).to e2 s2
        have wy2 : Dw X.K H2 W2 vy y := (wy.to ex1 fun _ z => z).to e2 s2
        obtain ⟨S3, ex3⟩ := ch (xs.set k1.toNat vx) (cs.set k1.toNat x) (aq.set _ wx2)
        refine ⟨a, xs, k1, k1.toNat, rfl, rfl, ah, ixN_in j0 (by rw [aq.length]; exact jl), vy, [], rfl, ?_⟩
        refine ⟨_, hv0, ?_⟩
        refine q2 s H0 W0 W2 σ _ _ _ Er _ S3 eo hd2 fun u z W4 ρ4 H4 hd4 s4 e4 S4 w4 => ?_
        split at hd4
        · rename_i k2 cs2 hi4
          cases w4
          obtain ⟨l0, ll, hn⟩ := hd4
          obtain ⟨a5, xs5, g5, aW5, a05, ah5, aq5, ch5⟩ := S4.changeOwn hi4
          rw [hv0] at g5
          cases g5
          have wy4 : Dw X.K H4 W4 vy y := (wy2.to ex3 fun _ z => z).to e4 s4
          obtain ⟨S6, ex6⟩ := ch5 (xs5.set k2.toNat vy) (cs2.set k2.toNat y) (aq5.set _ wy4)
          refine ⟨a, xs5, k2, k2.toNat, rfl, rfl, ah5, ixN_in l0 (by rw [aq5.length]; exact ll), rfl, ?_⟩
          exact k.nx W4 σ _ _ hn ((Step.of s1 (e1.trans (ex1.sub s1))).trans ((Step.of s2 e2).trans ((Step.of (fun _ z => z) ex3).trans ((Step.of s4 e4).trans (Step.of (fun _ z => z) ex6))))) S6
        · exact hd4.elim
      · exact hd2.elim
end
end DD

/-! dicts of pairs, keys ints: dict(list), list(dict), d[k] -/
namespace DD
open PySem L2
/-- in its place, or at the end -/
def putI (kvs : List (Int × PyData)) (k : Int) (v : PyData) : List (Int × PyData) :=
  if (kvs.any fun kv => decide (kv.1 = k)) = true then kvs.map (fun kv => if kv.1 = k then (kv.1, v) else kv) else kvs ++ [(k, v)]
def mergeI (kvs more : List (Int × PyData)) : List (Int × PyData) := more.foldl (fun acc kv => putI acc kv.1 kv.2) kvs
abbrev dictD (kvs : List (Int × PyData)) : PyData := .dict (kvs.map fun p => (.int p.1, p.2))
def RelK (K : Fg) (H : Hp) (W : List Addr) : List (Key × V) → List (Int × PyData) → Prop
  | [], [] => True
  | kv :: r, p :: q => kv.1 = .inl p.1 ∧ Dw K H W kv.2 p.2 ∧ RelK K H W r q
  | _, _ => False
section
variable {K : Fg} {H : Hp} {W : List Addr}
theorem RelK.any : ∀ {kvs : List (Key × V)} {ps : List (Int × PyData)} (k : Int), RelK K H W kvs ps → (kvs.any fun kv => decide (kv.1 = (.inl k : Key))) = ps.any fun p => decide (p.1 = k)
  | [], [], _, _ => rfl
  | kv :: r, p :: q, k, h => by
    obtain ⟨h1, h2, h3⟩ := h
    rw [List.any_cons, List.any_cons, h3.any k, h1]
    congr 1
    simp
  | [], _ :: _, _, h => h.elim
  | _ :: _, [], _, h => h.elim
theorem RelK.mapIf {k : Int} {v : V} {d : PyData} (hv : Dw K H W v d) : ∀ {kvs : List (Key × V)} {ps : List (Int × PyData)}, RelK K H W kvs ps → RelK K H W (kvs.map (fun kv => if kv.1 = (.inl k : Key) then (kv.1, v) else kv)) (ps.map (fun kv => if kv.1 = k then (kv.1, d) else kv))
  | [], [], _ => trivial
  | kv :: r, p :: q, h => by
    obtain ⟨h1, h2, h3⟩ := h
    rw [List.map_cons, List.map_cons]
    by_cases e : p.1 = k
    · rw [if_pos (by rw [h1, e]), if_pos e]; exact ⟨h1, hv, h3.mapIf hv⟩
    · rw [if_neg (by rw [h1]; simpa using e), if_neg e]; exact ⟨h1, h2, h3.mapIf hv⟩
  | [], _ :: _, h => h.elim
  | _ :: _, [], h => h.elim
theorem RelK.snoc {k : Int} {v : V} {d : PyData} (hv : Dw K H W v d) : ∀ {kvs : List (Key × V)} {ps : List (Int × PyData)}, RelK K H W kvs ps → RelK K H W (kvs ++ [(.inl k, v)]) (ps ++ [(k, d)])
  | [], [], _ => ⟨rfl, hv, trivial⟩
  | kv :: r, p :: q, h => ⟨h.1, h.2.1, h.2.2.snoc hv⟩
  | [], _ :: _, h => h.elim
  | _ :: _, [], h => h.elim
theorem RelK.put {k : Int} {v : V} {d : PyData} (hv : Dw K H W v d) {kvs : List (Key × V)} {ps : List (Int × PyData)} (h : RelK K H W kvs ps) : RelK K H W (putK kvs (.inl k) v) (putI ps k d) := by
  unfold putK putI
  rw [h.any k]
  split
  · exact h.mapIf hv
  · exact h.snoc hv
theorem RelK.keys : ∀ {kvs : List (Key × V)} {ps : List (Int × PyData)}, RelK K H W kvs ps → DwA K H W (kvs.map fun kv => kV kv.1) (ps.map fun p => .int p.1)
  | [], [], _ => .nil
  | kv :: r, p :: q, h => by
    rw [List.map_cons, List.map_cons, h.1]
    exact .cons (.int _) h.2.2.keys
  | [], _ :: _, h => h.elim
  | _ :: _, [], h => h.elim
theorem RelK.get {i : Int} {z : PyData} : ∀ {kvs : List (Key × V)} {ps : List (Int × PyData)}, RelK K H W kvs ps → (ps.find? fun p => decide (p.1 = i)).map (·.2) = some z → ∃ x, valV kvs (.inl i : Key) = some x ∧ Dw K H W x z
  | [], [], _, h => by cases h
  | kv :: r, p :: q, h, hz => by
    obtain ⟨h1, h2, h3⟩ := h
    by_cases e : p.1 = i
    · rw [List.find?_cons_of_pos (by simpa using e)] at hz
      cases hz
      exact ⟨kv.2, valV_pos (by rw [h1, e]), h2⟩
    · rw [List.find?_cons_of_neg (by simpa using e)] at hz
      obtain ⟨x, a, b⟩ := h3.get hz
      exact ⟨x, by rw [valV_neg (by rw [h1]; simpa using e)]; exact a, b⟩
  | [], _ :: _, h, _ => h.elim
  | _ :: _, [], h, _ => h.elim
theorem RelK.merge : ∀ {more : List (Key × V)} {ms : List (Int × PyData)} {kvs : List (Key × V)} {ps : List (Int × PyData)}, RelK K H W more ms → RelK K H W kvs ps → RelK K H W (mergeK kvs more) (mergeI ps ms)
  | [], [], _, _, _, h => h
  | kv :: r, p :: q, kvs, ps, hm, h => by
    obtain ⟨h1, h2, h3⟩ := hm
    unfold mergeK mergeI
    rw [List.foldl_cons, List.foldl_cons, h1]
    exact RelK.merge h3 (h.put h2)
  | [], _ :: _, _, _, h, _ => h.elim
  | _ :: _, [], _, _, h, _ => h.elim
theorem RelK.dw : ∀ {kvs : List (Key × V)} {ps : List (Int × PyData)}, RelK K H W kvs ps → (ps.map fun p => ((.int p.1, p.2) : PyData × PyData)).map (·.1) = kvs.map (fun p => keyD p.1) ∧ DwA K H W (kvs.map (·.2)) ((ps.map fun p => ((.int p.1, p.2) : PyData × PyData)).map (·.2))
  | [], [], _ => ⟨rfl, .nil⟩
  | kv :: r, p :: q, h => by
    obtain ⟨h1, h2, h3⟩ := h
    obtain ⟨a, b⟩ := h3.dw
    refine ⟨?_, ?_⟩
    · simp only [List.map_cons] at a ⊢
      rw [a, h1]; rfl
    · simp only [List.map_cons]
      exact .cons h2 b
  | [], _ :: _, h => h.elim
  | _ :: _, [], h => h.elim
theorem RelK.of : ∀ {kvs : List (Key × V)} {ps : List (Int × PyData)}, (ps.map fun p => ((.int p.1, p.2) : PyData × PyData)).map (·.1) = kvs.map (fun p => keyD p.1) → DwA K H W (kvs.map (·.2)) ((ps.map fun p => ((.int p.1, p.2) : PyData × PyData)).map (·.2)) → RelK K H W kvs ps
  | [], [], _, _ => trivial
  | kv :: r, p :: q, h, g => by
    simp only [List.map_cons, List.cons.injEq] at h g
    cases g with
    | cons g1 g2 =>
      refine ⟨?_, g1, RelK.of h.2 g2⟩
      have := h.1
      cases e : kv.1 with
      | inl i => rw [e] at this; simp only [keyD, PyData.int.injEq] at this; rw [this]
      | inr z => rw [e] at this; cases this
  | [], _ :: _, h, _ => by cases h
  | _ :: _, [], h, _ => by cases h
/-- the list's pairs -/
theorem pairs_rel : ∀ {xs : List V} {ps : List (Int × PyData)}, DwA K H W xs (ps.map fun p => .tuple [.int p.1, p.2]) → ∃ (as : List Addr) (kvs : List (Key × V)), xs = as.map V.ref ∧ Paired (fun p kv => SqT K H p [kV kv.1, kv.2]) as kvs ∧ RelK K H W kvs ps
  | _, [], h => by cases h; exact ⟨[], [], rfl, .nil, trivial⟩
  | _, p :: ps, h => by
    cases h with
    | cons a b =>
      obtain ⟨as, kvs, rfl, q1, q2⟩ := pairs_rel b
      obtain ⟨t, rfl⟩ := a.tupV
      obtain ⟨ys, hs, q⟩ := a.sqT
      cases q with
      | cons c1 c2 => cases c2 with
        | cons c3 c4 =>
          cases c4
          cases c1
          rename_i v
          exact ⟨t :: as, (.inl p.1, v) :: kvs, rfl, .cons hs q1, rfl, c3, q2⟩
end
section
variable {X : Cx} {EX : XK} {a b e : Expr} {da db : DE} {p pos : Pos}
def dDictL (a : DE) : DE := fun ρ R Er => a ρ (fun d ρ1 => ∃ ps : List (Int × PyData), d = .list (ps.map fun p => .tuple [.int p.1, p.2]) ∧ R (dictD (mergeI [] ps)) ρ1) Er
theorem de_dictL (hc : X.calm = true) (hm : X.mg "dict" = none) (ha : DEx X EX e da) (hg : Gl X "dict" := by rfl) (he : starEach [e] X.env = (false, eval e X.env) :: starEach [] X.env := by rfl) (hpl : (backTo pos (starEach [] X.env)).any (·.1) = false := by rfl) :
    DEx X EX (.Call (.Name "dict" p) [e] [] pos) (dDictL da) := by
  obtain ⟨t, pa, q⟩ := ha.ex
  refine ⟨_, pe_callTy (call_dictP hc) hg hm boot_dict' (pa_cons pa pa_nil he) (he := he) (hpl := hpl), fun s H0 W0 W σ ρ H R Er Q S eo hd k => ?_⟩
  refine q s H0 W0 W σ ρ H _ Er _ S eo hd fun v d W1 ρ1 H1 hd1 s1 e1 S1 w1 => ?_
  obtain ⟨ps, rfl, hR⟩ := hd1
  obtain ⟨l, rfl⟩ := w1.lstV
  obtain ⟨xs, h1, q1⟩ := w1.sqL
  obtain ⟨as, kvs, rfl, pr, rel⟩ := pairs_rel q1
  refine ⟨l, as, kvs, rfl, h1, pr, fun b hb => ?_⟩
  have rr : RelK X.K (upd H1 b (.dK (mergeK [] kvs))) W1 (mergeK [] kvs) (mergeI [] ps) := by
    have r0 : RelK X.K H1 W1 (mergeK [] kvs) (mergeI [] ps) := rel.merge (kvs := []) (ps := []) trivial
    obtain ⟨a1, a2⟩ := r0.dw
    exact RelK.of a1 (a2.to (Ext.same (same_upd hb)) fun _ z => z)
  obtain ⟨a1, a2⟩ := rr.dw
  exact k _ _ W1 ρ1 _ hR s1 (e1.trans (Ext.same (same_upd hb))) (S1.alloc hb) (.dct (S1.fresh hb) upd_same a1 a2)
/-- list(dict) -/
def dListK (a : DE) : DE := fun ρ R Er => a ρ (fun d ρ1 => ∃ ps : List (Int × PyData), d = dictD ps ∧ R (.list (ps.map fun p => .int p.1)) ρ1) Er
theorem de_listK (hc : X.calm = true) (hm : X.mg "list" = none) (ha : DEx X EX e da) (hg : Gl X "list" := by rfl) (he : starEach [e] X.env = (false, eval e X.env) :: starEach [] X.env := by rfl) (hpl : (backTo pos (starEach [] X.env)).any (·.1) = false := by rfl) :
    DEx X EX (.Call (.Name "list" p) [e] [] pos) (dListK da) := by
  obtain ⟨t, pa, q⟩ := ha.ex
  refine ⟨_, pe_callTy (call_list_dK hc) hg hm PyProof.Rows.boot_list (pa_cons pa pa_nil he) (he := he) (hpl := hpl), fun s H0 W0 W σ ρ H R Er Q S eo hd k => ?_⟩
  refine q s H0 W0 W σ ρ H _ Er _ S eo hd fun v d W1 ρ1 H1 hd1 s1 e1 S1 w1 => ?_
  obtain ⟨ps, rfl, hR⟩ := hd1
  cases w1 with
  | dcT n r e0 kk qq =>
    rename_i l kvs
    cases ps with
    | nil => exact absurd rfl e0
    | cons x t =>
      cases kvs with
      | nil => cases kk
      | cons y u => simp at kk
  | dct n r kk qq =>
    rename_i l kvs
    have rel := RelK.of kk qq
    refine ⟨l, kvs, rfl, r, fun b hb => ?_⟩
    exact k _ _ W1 ρ1 _ hR s1 (e1.trans (Ext.same (same_upd hb))) (S1.alloc hb) (Dw.newLst hb (S1.fresh hb) rel.keys)
/-- d[k], k an int -/
def dDget (a b : DE) : DE := fun ρ R Er => a ρ (fun d ρ1 => b ρ1 (fun y ρ2 => ∃ (ps : List (Int × PyData)) (k : Int) (z : PyData), d = dictD ps ∧ y = .int k ∧ (ps.find? fun p => decide (p.1 = k)).map (·.2) = some z ∧ R z ρ2) Er) Er
theorem de_dget (hu : X.A.units + 65 < cLine) (ha : DEx X EX a da) (hb : DEx X EX b db) (hs : NoSl b := by exact fun _ _ => rfl) : DEx X EX (.Subscript a b pos) (dDget da db) := by
  obtain ⟨ta, pa, qa⟩ := ha.ex
  obtain ⟨tb, pb, qb⟩ := hb.ex
  refine ⟨_, pe_dget (by omega) pa pb hs, fun s H0 W0 W σ ρ H R Er Q S eo hd k => ?_⟩
  refine qa s H0 W0 W σ ρ H _ Er _ S eo hd fun v d W1 ρ1 H1 hd1 s1 e1 S1 w1 => ?_
  refine qb s H0 W0 W1 σ ρ1 H1 _ Er _ S1 eo hd1 fun u y W2 ρ2 H2 hd2 s2 e2 S2 w2 => ?_
  obtain ⟨ps, i, z, rfl, rfl, hz, hR⟩ := hd2
  cases w2
  have w3 := w1.to e2 s2
  cases w3 with
  | dcT n r e0 kk qq =>
    rename_i l kvs
    cases ps with
    | nil => exact absurd rfl e0
    | cons x t =>
      cases kvs with
      | nil => cases kk
      | cons y u => simp at kk
  | dct n r kk qq =>
    rename_i l kvs
    have rel := RelK.of kk qq
    obtain ⟨x, hx, dx⟩ := rel.get hz
    exact ⟨l, x, rfl, .inl ⟨kvs, .inl i, .inl r, rfl, hx.symm⟩, k _ _ W2 ρ2 H2 hR (sub_tr s2 s1) (ext_tr e1 e2 s1) S2 dx⟩
end
end DD

/-! try: return a() / except C as n: which of the classes it is, and the value's repr -/
namespace DD
open PySem L2 LamX
open PyProof.Rows (envOfC)
/-- what a class must say, so that isinstance asks its instances rightly -/
structure IsA (K : Fg) (D : Addr) : Prop where
  cl : (PySem.W.clsIn K D).isSome = true
  ga : PySem.W.findIn K (.ref D) "__getattribute__" = some (some (.builtin "BaseException.__getattribute__"))
  gt : PySem.W.findIn K (.ref D) "__getattr__" = some none
  sb : PySem.W.subIn K (.ref D) (.type "BaseException") = some true
  ha : PySem.W.findIn K (.ref D) "__class__" = some (some (.builtin "object.__class__"))
  hn : PySem.W.specialIn K (.builtin "object.__class__") "__get__" = some (some (.builtin "getset_descriptor.__get__"))
  tk : PySem.W.takesIn K (.builtin "object.__class__") = some true
  hm : PySem.W.mroIn K D (.type "object") = some true
/-- isinstance(e, c), e the error at a, of the class D, its fields at dd -/
def rIsED (K : Fg) (D a dd : Addr) : List V → Hp → VK → Prop := fun xs H Q => ∃ (c : Addr) (b : Bool) (fs : List (Str × V)), xs = [.ref a, .ref c] ∧ PySem.W.kitOne K (.ref D) (.ref c) = some b ∧ H dd = some (.xd fs) ∧ Q (.bl b) H
theorem call_isED {X : Cx} {a D dd : Addr} {oe : Obj} {pn : List (Addr × Obj)} (C : IsA X.K D) (hz : Zc (.ref D) (some dd) oe) (hf : ∃ vs, oe.data = .fields vs) : CallR (X.suite a ((a, oe) :: pn)) (.builtin "isinstance") (rIsED X.K D a dd) := by
  intro pins s σ H xs us Q I r h
  obtain ⟨c, b, fs, rfl, e, hx, q⟩ := h
  cases r with
  | cons rx rr =>
    cases rr with
    | cons rt rr =>
      cases rr
      cases rx
      cases rt
      obtain ⟨hget, _⟩ := I.pin (a, oe) (List.mem_append.mpr (.inl List.mem_cons_self))
      obtain ⟨vs, hv⟩ := hf
      obtain ⟨od, hod⟩ : ∃ od, s.heap.get? dd = some od := by
        obtain ⟨mA, ⟨o, es, ep, ho, _⟩, _⟩ := I.hok dd _ hx
        exact ⟨o, ho⟩
      have J : PySem.W.InstAt s.heap a oe D (some od) := by
        obtain ⟨oc, od', oda, osl⟩ := oe
        obtain ⟨h1, h2⟩ := hz
        dsimp only at h1 h2 hv
        subst h1 h2 hv
        exact ⟨hget, rfl, rfl, hod⟩
      exact PySem.W.kia_one (PySem.W.kitx_exc C.cl C.ga C.gt C.sb C.ha C.hn C.tk C.hm) I.kIn J e (fun z => nomatch z) fun tk => ⟨.bl b, H, I.kept (t' := tk) fun _ _ z => z, rfl, q⟩
/-- the wish of an error: the word of its class, the repr of its value -/
def wish2 (K : Fg) (Q : VK) (cs : List (Addr × Str)) : XK := fun cls d H => ∃ (C : Addr) (w : Str), (C, w) ∈ cs ∧ cls = .ref C ∧ ∃ (dd : Addr) (v : V) (dv : PyData) (W : List Addr), d = some dd ∧ H dd = some (.xd [(("value" : Str), v)]) ∧ Dw K H W v dv ∧ rOkD dv = true ∧
  ∀ (H' : Hp) (p : Addr), Same H H' → H' p = none → Q (.ref p) (upd H' p (.lst [.str w, .str dv.shown]))
def TT2 (K : Fg) (cs : List (Addr × Str)) : (XK → Hp → VK → Prop) → Hp → VK → Prop := fun tl H Q => tl (wish2 K Q cs) H Q
/-- the clause's suite as it is read -/
def ts2 (K : Fg) (cs : List (Addr × Str)) : Addr → Value → Option Addr → TS := fun b k d D σ H => σ[1]? = some (some (.ref b)) ∧ wish2 K D.rt cs k d H
/-- the classes' addresses tell the words -/
structure IsOk (K : Fg) (cs : List (Addr × Str)) : Prop where
  is : ∀ p ∈ cs, ∀ q ∈ cs, PySem.W.kitOne K (.ref p.1) (.ref q.1) = some (decide (q.1 = p.1))
  nd : ∀ p ∈ cs, ∀ q ∈ cs, p.1 = q.1 → p.2 = q.2
  cl : ∀ p ∈ cs, IsA K p.1 ∧ XfC K p.1 ∧ PySem.W.findIn K (.ref p.1) "value" = some none
theorem idx_of {D : Addr} {w : Str} : ∀ {cs : List (Addr × Str)}, (D, w) ∈ cs → (∀ p ∈ cs, ∀ q ∈ cs, p.1 = q.1 → p.2 = q.2) → ∃ j : Nat, cs[j]? = some (D, w) ∧ ∀ (m : Nat) (q : Addr × Str), m < j → cs[m]? = some q → q.1 ≠ D
  | [], h, _ => by cases h
  | c :: r, h, nd => by
    by_cases e : c.1 = D
    · refine ⟨0, ?_, fun m q lt => absurd lt (Nat.not_lt_zero _)⟩
      have := nd c List.mem_cons_self (D, w) h e
      rw [List.getElem?_cons_zero]
      exact congrArg some (Prod.ext e this)
    · rcases List.mem_cons.mp h with z | z
      · exact absurd (by rw [← z]) e
      · obtain ⟨j, h1, h2⟩ := idx_of z fun p hp q hq => nd p (List.mem_cons_of_mem _ hp) q (List.mem_cons_of_mem _ hq)
        refine ⟨j + 1, by rw [List.getElem?_cons_succ]; exact h1, fun m q lt hm => ?_⟩
        cases m with
        | zero => rw [List.getElem?_cons_zero] at hm; cases hm; exact e
        | succ m => rw [List.getElem?_cons_succ] at hm; exact h2 m q (by omega) hm
/-- the list's items: isinstance(e, C), .. -/
def IsL (Y : Cx) (b D dd : Addr) (es : List Expr) (cs : List (Addr × Str)) : Prop := ∃ t, PA Y es t ∧ ∀ (σ : L2.St) (H : Hp) (Q : List V → Hp → Prop), σ[1]? = some (some (.ref b)) → (∃ fs, H dd = some (.xd fs)) → Q (cs.map fun q => .bl (decide (q.1 = D))) H → t σ H Q
section
variable {X : Cx}
theorem is_nil {Y : Cx} {b D dd : Addr} : IsL Y b D dd [] [] := ⟨_, pa_nil, fun _ _ _ _ _ h => h⟩
theorem is_cons {b D dd C : Addr} {ob : Obj} {pn : List (Addr × Obj)} {n x w : Str} {p1 p2 p3 pos : Pos} {es : List Expr} {r : List (Addr × Str)} (T : IsA X.K D) (hz : Zc (.ref D) (some dd) ob) (hf : ∃ vs, ob.data = .fields vs) (hi : PE (X.suite b ((b, ob) :: pn)) (.Name n p2) (tVar 1)) (hx : Gl X x) (hm : X.mg x = some (.ref C)) (bI : X.mg "isinstance" = none) (gI : Gl X "isinstance")
    (k : PySem.W.kitOne X.K (.ref D) (.ref C) = some (decide (C = D))) (h : IsL (X.suite b ((b, ob) :: pn)) b D dd es r) (hd : (x == ("__debug__" : Str)) = false)
    (e1 : ∀ Y : Cx, starEach [.Name n p2, .Name x p3] Y.env = (false, eval (.Name n p2) Y.env) :: starEach [.Name x p3] Y.env) (e2 : ∀ Y : Cx, starEach [.Name x p3] Y.env = (false, eval (.Name x p3) Y.env) :: starEach [] Y.env)
    (e3 : ∀ Y : Cx, starEach (.Call (.Name "isinstance" p1) [.Name n p2, .Name x p3] [] pos :: es) Y.env = (false, eval (.Call (.Name "isinstance" p1) [.Name n p2, .Name x p3] [] pos) Y.env) :: starEach es Y.env)
    (e4 : ∀ Y : Cx, (backTo pos (starEach [.Name x p3] Y.env)).any (·.1) = false) :
    IsL (X.suite b ((b, ob) :: pn)) b D dd (.Call (.Name "isinstance" p1) [.Name n p2, .Name x p3] [] pos :: es) ((C, w) :: r) := by
  obtain ⟨t, pa, q⟩ := h
  have pc : PE (X.suite b ((b, ob) :: pn)) (.Name x p3) (tC (.ref C)) := pe_glob (X := X.suite b ((b, ob) :: pn)) (v := .ref C) (u := .ref C) hx hm rfl hd
  have pI : PE (X.suite b ((b, ob) :: pn)) (.Call (.Name "isinstance" p1) [.Name n p2, .Name x p3] [] pos) (tCB (rIsED X.K D b dd) (tCons (tVar 1) (tCons (tC (.ref C)) tNil))) :=
    pe_callB (X := X.suite b ((b, ob) :: pn)) (call_isED T hz hf) gI bI PyProof.Rows.boot_isinstance (pa_cons hi (pa_cons pc pa_nil (e2 _)) (e1 _)) (he := e1 _) (hpl := e4 _)
  refine ⟨_, pa_cons pI pa (e3 _), fun σ H Q h1 ⟨fs, h2⟩ hq => ?_⟩
  exact ⟨_, h1, C, _, fs, rfl, k, h2, q σ H _ h1 ⟨fs, h2⟩ hq⟩
theorem iteT' {c : Prop} [Decidable c] {a b : Prop} (h : c) (q : a) : if c then a else b := by rw [if_pos h]; exact q
theorem clause2 {b : Addr} {ob : Obj} {k : Value} {d : Option Addr} {pn : List (Addr × Obj)} {n xs ns : Str} {cs : List (Addr × Str)} {es es2 : List Expr} {j1 j2 j3 : Nat} {oth : Str} {b1 b2 b3 b4 b5 a1 a2 a3 q1 q2 q3 q4 q5 q6 q7 q8 q9 r1 r2 r3 r4 r5 r6 : Pos}
    (ok : IsOk X.K cs) (hN : 4 ≤ X.N.length) (hgd : X.A.guards = some []) (hu : X.A.units + 64 < cLine) (bR : X.mg "repr" = none) (gR : Gl X "repr")
    (hz : Zc k d ob) (hf : ∃ vs, ob.data = .fields vs)
    (pN : ∀ p, PE (X.suite b ((b, ob) :: pn)) (.Name n p) (tVar 1)) (pS : ∀ p, PE (X.suite b ((b, ob) :: pn)) (.Name xs p) (tVar 2)) (pW : ∀ p, PE (X.suite b ((b, ob) :: pn)) (.Name ns p) (tVar 3))
    (m1 : ∀ te, PE (X.suite b ((b, ob) :: pn)) (.List es a1) te → PS (X.suite b ((b, ob) :: pn)) (.Assign [.Name xs b1] (.List es a1) b2) (tAsg te (gName 2))) (m2 : ∀ te, PE (X.suite b ((b, ob) :: pn)) (.List es2 a2) te → PS (X.suite b ((b, ob) :: pn)) (.Assign [.Name ns b3] (.List es2 a2) b4) (tAsg te (gName 3)))
    (hI : ∀ (D dd : Addr) (w : Str), (D, w) ∈ cs → k = .ref D → d = some dd → IsL (X.suite b ((b, ob) :: pn)) b D dd es cs)
    (hW : ∃ t, PA (X.suite b ((b, ob) :: pn)) es2 t ∧ ∀ (σ : L2.St) (H : Hp) (Q : List V → Hp → Prop), Q (cs.map fun q => .str q.2) H → t σ H Q) (hl : cs.length ≤ 1000)
    (nm : ∀ Y : Cx, behindInMarks .In (.Name xs q2) = false) (nx : PlainIx (.Call (.Attribute (.Name xs q4) "index" q5) [.Constant (.bool true) j2 q6] [] q7))
    (e1 : ∀ Y : Cx, starEach [.Constant (.bool true) j2 q6] Y.env = (false, eval (.Constant (.bool true) j2 q6) Y.env) :: starEach [] Y.env)
    (pI : ∀ Y : Cx, ∀ to ta, PE Y (.Name xs q4) to → PA Y [.Constant (.bool true) j2 q6] ta → PE Y (.Call (.Attribute (.Name xs q4) "index" q5) [.Constant (.bool true) j2 q6] [] q7) (tBM Y.K "list" (rIndex Y.K) to ta))
    (pR : ∀ ta, PA (X.suite b ((b, ob) :: pn)) [.Attribute (.Name n r1) "value" r2] ta → PE (X.suite b ((b, ob) :: pn)) (.Call (.Name "repr" r3) [.Attribute (.Name n r1) "value" r2] [] r4) (tCB (rReprD X.K) ta))
    (pX : ∀ D dd, D ∈ cs.map (·.1) → k = .ref D → d = some dd → PE (X.suite b ((b, ob) :: pn)) (.Attribute (.Name n r1) "value" r2) (tXf b k d D "value" (tVar 1)))
    (e2 : ∀ Y : Cx, starEach [.Attribute (.Name n r1) "value" r2] Y.env = (false, eval (.Attribute (.Name n r1) "value" r2) Y.env) :: starEach [] Y.env)
    (e3 : ∀ (Y : Cx) (f : Expr), f = .IfExp (.Compare (.Constant (.bool true) j1 q1) [.In] [.Name xs q2] q3) (.Subscript (.Name ns q8) (.Call (.Attribute (.Name xs q4) "index" q5) [.Constant (.bool true) j2 q6] [] q7) q9) (.Constant (.str oth) j3 r5) r6 → starEach [f, .Call (.Name "repr" r3) [.Attribute (.Name n r1) "value" r2] [] r4] Y.env = (false, eval f Y.env) :: starEach [.Call (.Name "repr" r3) [.Attribute (.Name n r1) "value" r2] [] r4] Y.env)
    (e4 : ∀ Y : Cx, starEach [.Call (.Name "repr" r3) [.Attribute (.Name n r1) "value" r2] [] r4] Y.env = (false, eval (.Call (.Name "repr" r3) [.Attribute (.Name n r1) "value" r2] [] r4) Y.env) :: starEach [] Y.env) :
    PSs (X.suite b ((b, ob) :: pn)) [.Assign [.Name xs b1] (.List es a1) b2, .Assign [.Name ns b3] (.List es2 a2) b4, .Return (some (.List [.IfExp (.Compare (.Constant (.bool true) j1 q1) [.In] [.Name xs q2] q3) (.Subscript (.Name ns q8) (.Call (.Attribute (.Name xs q4) "index" q5) [.Constant (.bool true) j2 q6] [] q7) q9) (.Constant (.str oth) j3 r5) r6,
      .Call (.Name "repr" r3) [.Attribute (.Name n r1) "value" r2] [] r4] a3)) b5] (ts2 X.K cs b k d) := by
  refine ⟨fun pins s σ H D I h => ?_⟩
  have hlen : 4 ≤ σ.length := by rw [I.len]; exact hN
  obtain ⟨h1, C, w, hm, rfl, dd, v, dv, W, rfl, hx, hdw, hok, go⟩ := h
  obtain ⟨tI, pIs, qI⟩ := hI C dd w hm rfl rfl
  obtain ⟨tW, pWs, qW⟩ := hW
  have hC : C ∈ cs.map (·.1) := List.mem_map.mpr ⟨_, hm, rfl⟩
  have pTest := pt_cmpR (X := X.suite b ((b, ob) :: pn)) (pos := q3) op_in_seq (pe_bl (X := X.suite b ((b, ob) :: pn)) (b := true) (j := j1) (pos := q1)) (pS q2) (nm X)
  have pIdx := pI (X.suite b ((b, ob) :: pn)) _ _ (pS q4) (pa_cons (pe_bl (X := X.suite b ((b, ob) :: pn)) (b := true) (j := j2) (pos := q6)) pa_nil (e1 _))
  have pAt := pe_ix (X := X.suite b ((b, ob) :: pn)) (pos := q9) ix_seq (pW q8) pIdx nx
  have pIf := pe_ifExp (X := X.suite b ((b, ob) :: pn)) (pos := r6) pTest pAt (pe_str (X := X.suite b ((b, ob) :: pn)) (x := oth) (j := j3) (pos := r5))
  have pRep := pR _ (pa_cons (pX C dd hC rfl rfl) pa_nil (e2 _))
  have pl := pss_cons (m1 _ (pe_lst pIs)) (pss_cons (m2 _ (pe_lst pWs)) (pss_one (ps_ret (pos := b5) (pe_lst (pos := a3) (pa_cons pIf (pa_cons pRep pa_nil (e4 _)) (e3 _ _ rfl))))))
  refine pl.run pins s σ H D I ?_
  have sl : ∀ {α : Type} {l : List α}, l.length = cs.length → l.length ≤ sizeLine := fun {α l} e => by rw [sizeLine_eq, e]; omega
  refine qI σ H _ h1 ⟨_, hx⟩ ⟨sl (by simp), fun p1 hp1 => ?_⟩
  have hp1d : dd ≠ p1 := fun e => by rw [← e, hx] at hp1; cases hp1
  refine qW _ _ _ ⟨sl (by simp), fun p2 hp2 => ?_⟩
  obtain ⟨j, hj, first⟩ := idx_of hm ok.nd
  have g2 : (((σ.set 2 (some (V.ref p1))).set 3 (some (V.ref p2)))[2]? : Option (Option V)) = some (some (.ref p1)) := by
    rw [List.getElem?_set_ne (by omega), List.getElem?_set_self (by omega)]
  have g3 : (((σ.set 2 (some (V.ref p1))).set 3 (some (V.ref p2)))[3]? : Option (Option V)) = some (some (.ref p2)) := by
    rw [List.getElem?_set_self (by rw [List.length_set]; omega)]
  have g1 : (((σ.set 2 (some (V.ref p1))).set 3 (some (V.ref p2)))[1]? : Option (Option V)) = some (some (.ref b)) := by
    rw [List.getElem?_set_ne (by omega), List.getElem?_set_ne (by omega)]; exact h1
  have n12 : p1 ≠ p2 := fun e => by rw [← e, upd_same] at hp2; cases hp2
  have at1 : SqL X.K (upd (upd H p1 (.lst (cs.map fun q => .bl (decide (q.1 = C))))) p2 (.lst (cs.map fun q => .str q.2))) p1 (cs.map fun q => .bl (decide (q.1 = C))) := SqL.of (by rw [upd_ne n12, upd_same])
  have at2 : SqL X.K (upd (upd H p1 (.lst (cs.map fun q => .bl (decide (q.1 = C))))) p2 (.lst (cs.map fun q => .str q.2))) p2 (cs.map fun q => .str q.2) := SqL.of upd_same
  have flat : (cs.map fun q => V.bl (decide (q.1 = C))).all flatV = true := by simp [flatV]
  have jl : j < cs.length := (List.getElem?_eq_some_iff.mp hj).1
  have inn : inV (.bl true) (cs.map fun q => V.bl (decide (q.1 = C))) = true := by
    unfold inV
    rw [List.any_map, List.any_eq_true]
    exact ⟨(C, w), hm, by simp [eqV]⟩
  have dx : (upd (upd H p1 (.lst (cs.map fun q => .bl (decide (q.1 = C))))) p2 (.lst (cs.map fun q => .str q.2))) dd = some (.xd [(("value" : Str), v)]) := by
    have hd1 : (upd H p1 (.lst (cs.map fun q => V.bl (decide (q.1 = C))))) dd = some (.xd [(("value" : Str), v)]) := by rw [upd_ne hp1d]; exact hx
    rw [upd_ne (ne_of_none hd1 hp2)]; exact hd1
  have same : Same H (upd (upd H p1 (.lst (cs.map fun q => .bl (decide (q.1 = C))))) p2 (.lst (cs.map fun q => .str q.2))) := (same_upd hp1).trans (same_upd hp2)
  refine ⟨_, g2, p1, _, rfl, .inl at1, rfl, flat, _, rfl, ?_⟩
  refine iteT' (show inV _ _ = true from inn) ?_
  refine ⟨_, g3, _, g2, .inl ⟨rfl, _, at1⟩, p1, _, .bl true, j, .bl true, rfl, rfl, at1, rfl, flat, ?_, rfl, fun m z' lt hz => ?_, ?_⟩
  · rw [List.getElem?_map, hj]; simp
  · rw [List.getElem?_map] at hz
    cases e : cs[m]? with
    | none => rw [e] at hz; cases hz
    | some q =>
      rw [e] at hz
      cases hz
      have := first m q lt e
      simp [eqV, this]
  · refine .inl ⟨p2, _, _, .str w, rfl, rfl, at2, ?_, ?_⟩
    · unfold atI ixN
      rw [List.length_map]
      simp only [Int.natCast_nonneg, if_true]
      rw [if_pos (by omega)]
      show (cs.map fun q => V.str q.2)[((j : Nat) : Int).toNat]? = _
      rw [Int.toNat_natCast, List.getElem?_map, hj]
      rfl
    · refine ⟨_, g1, rfl, rfl, dd, _, v, rfl, dx, by simp [List.lookup], v, dv, W, rfl, hdw.to (Ext.same same) (fun _ z => z), hok, (show 2 ≤ sizeLine by rw [sizeLine_eq]; decide), fun p hp => ?_⟩
      exact go _ p same hp
theorem caught2_gives {Ng : List Str} {x a q : Str} {sg : Scope} {g S : Addr} {cdg : Value} {p1 p2 p5 p6 : Pos} {h₀ : ExceptHandler} {hds : List ExceptHandler} {cs : List (Addr × Str)} (nd : Ng.Nodup) (h0 : ∀ f : Addr, (L2.start Ng [V.ref f])[0]? = some (some (V.ref f)))
    (ex : ∀ p ∈ cs, PySem.W.exmOne X.K (.ref p.1) (.ref S) = some true)
    (cl : ∀ (s : Shared) (H : Hp), Clauses (cxOf C8.CX0 X.prog X.w X.K X.mg X.base Ng x sg g cdg X.A X.stack s H C8.E0).nox (h₀ :: hds) [(.ref S, 1, ts2 X.K cs)]) :
    GivesTo X Ng x sg g cdg [.Try [.Return (some (.Call (.Name a p1) [] [] p2)) p5] (h₀ :: hds) [] [] p6] a q (TT2 X.K cs) := by
  intro f c' s H Q tl act hc h
  refine ⟨_, pss_one (ps_try_each (X := (cxOf C8.CX0 X.prog X.w X.K X.mg X.base Ng x sg g cdg X.A X.stack s H C8.E0).nox) (l := [(.ref S, 1, ts2 X.K cs)])
    (tb := fun W D σ H => ∃ Ech : XK, (∀ cls d σ' H', Ech cls d H' → W cls d σ' H') ∧ σ[0]? = some (some (.ref f)) ∧ H c' = some (CodeO c' q) ∧ tl Ech H D.rt)
    rfl rfl nd (fun W pn xe tk _ => ?_) (cl s H)), ?_⟩
  · refine ⟨fun pins s' σ H' D I h' => ?_⟩
    obtain ⟨Ech, hW, h1, h2, h3⟩ := h'
    have hp := act W pn xe Ech p1 p2 tk hW
    have pl := pss_one (ps_ret (pos := p5) hp)
    exact pl.run pins s' σ H' D I ⟨h1, h2, h3⟩
  · refine ⟨wish2 X.K Q cs, fun cls d σ' H' w => ?_, h0 f, hc, h⟩
    obtain ⟨C, w1, hm, rfl, r⟩ := w
    exact ⟨true, ex _ hm, fun _ b _ hl => ⟨List.getElem?_set_self hl, C, w1, hm, rfl, r⟩, fun z => by cases z⟩
end
/-- x(lambda: body), the value itself or [word, repr] -/
def dCaught2 (P : Addr) (q : Str) (cs : List (Addr × Str)) (dt : DE) : DE := fun ρ R Er => (P, q) ∈ Er.T ∧
  dt (hide ρ) (fun d _ => R d ρ) ⟨fun C d => ∃ w, (C, w) ∈ cs ∧ rOkD d = true ∧ R (.list [.str w, .str d.shown]) ρ, []⟩
section
variable {X : Cx} {EX : XK} {k : Nat} {x : Str} {p pos : Pos}
theorem de_caught2 {q : Str} {cs : List (Addr × Str)} {dt : DE} {a : Str} {g c P : Addr} {pg : Arguments} {bg : List Stmt} {sg : Scope} {dV kV doc pm cdv ct oc : Value} {an od : Option Addr} {osl : Array (Option Value)} {Ng : List Str}
    {params : Arguments} {body : Expr} {scope : Scope} {lpos : Pos} (gl : Gl X x) (mm : X.mg x = some (.ref g)) (kp : PySem.W.keepIn X.K (.ref g) = true)
    (lk : X.K.lookup g = some ⟨oc, od, .func (PySem.W.fnOf x x pg bg sg dV kV doc pm an cdv ct), osl⟩) (cg : PySem.W.codeIn X.K cdv x = true) (bi : L2.Binds X.K (PySem.W.fnOf x x pg bg sg dV kV doc pm an cdv ct) [a] []) (Sg : FnScope Ng [a] sg) (n0 : Ng[0]? = some a) (va : Vis sg a)
    (G : GivesTo X Ng x sg g cdv bg a q (TT2 X.K cs)) (hq : q = X.env.qual ++ "<lambda>")
    (B : TabB X.base X.mg c P) (cd : X.env.code = .ref c) (hr : Room (k + 2) X.A) (hgd : X.A.guards = some []) (L : LamS X.env.scope scope) (nodef : defaultsOf params X.env = ([], []))
    (bnd : ∀ (q : Str) (cl : List (Str × Addr)) (pm cv ctv : Value), bindArgs (PySem.W.kla_fn "<lambda>" q params body scope cl pm cv ctv) ⟨[], []⟩ = pure [])
    (bd : ∀ (A : Around) (outer : List Env) (s : Shared) (H : Hp) (E : XK) (f d : Addr), Room k (A.deeper (lamEnv X scope s.heap.objs.size f d)) → A.guards = some [] → DEx (lamCx X A outer s H E scope f d) E body dt)
    (d1 : (x == ("__debug__" : Str)) = false := by decide) (d2 : (a == ("__debug__" : Str)) = false := by decide) (d3 : (a == ("__classdict__" : Str)) = false := by decide) :
    DEx X EX (.Call (.Name x p) [.Lambda params body scope lpos] [] pos) (dCaught2 P q cs dt) := by
  subst hq
  refine ⟨fun σ H Q => ∃ T : List (Addr × Str), (P, X.env.qual ++ "<lambda>") ∈ T ∧ (∀ p ∈ T, p.1 = P → p.2 = X.env.qual ++ "<lambda>") ∧ tLamB P T (TT2 X.K cs) (fun E => tD X.K E dt) σ H Q, ⟨fun pins s σ H Q I h => ?_⟩, fun s H0 W0 W σ ρ H R Er Q S eo hd kk => ?_⟩
  · obtain ⟨T, h1, h2, h3⟩ := h
    exact (pe_lamB gl mm kp lk cg bi Sg n0 va G B cd h1 h2 hr L nodef bnd (fun A outer s H E f d rm gd => (bd A outer s H E f d rm (gd.trans hgd)).pe) d1 d2 d3).run pins s σ H Q I h3
  · obtain ⟨hT, hd⟩ := hd
    have hp := eo.tabs _ hT
    have nP : ∀ b o, H b = some o → (∀ ps, o ≠ .tbl ps) → b ≠ P := fun b o h n e => by
      obtain ⟨ps, z, _⟩ := S.tab.1 _ hp
      rw [e, z] at h
      exact n ps (Option.some.inj h).symm
    refine ⟨s.tab, hp, fun p h e => s.fn p h _ hp e, S.tab.1, fun H1 bt T1 => ?_⟩
    have S1 : SOk X.K H0 W0 s W σ ρ H1 := S.grow (fun b o n h => bt b o (fun e => n (.inr ⟨_, hp, e.symm⟩)) h) (fun a ha => (S.src a ha).2.2.stay fun o h => bt a o (fun e => by
      obtain ⟨x, y, z, _⟩ := (S.src a ha).2.2
      exact nP a _ z (fun ps w => by cases w) e) h) T1
    have ext1 : Ext W H H1 := fun b o n h => bt b o (fun e => by
      rcases n with n | ⟨xs, rfl⟩
      · exact n (by rw [e]; exact S.sub _ (S.tab.2 _ hp).1)
      · exact nP b _ h (fun ps w => by cases w) e) h
    have S2of : ∀ {H2 : Hp}, (∀ b o, H1 b = some o → ¬ s.Has b → H2 b = some o) → (∀ a, s.src = some a → SrcAt H2 a) → Tabs s.tab H2 → SOk X.K H0 W0 s W σ ρ H2 ∧ Ext W H H2 := fun {H2} fr hs ht =>
      ⟨S1.grow (fun b o n h => fr b o h n) hs ht, ext1.trans fun b o n h => fr b o h (S1.no' n h)⟩
    refine ⟨s, H1, W, W, hide ρ, _, _, S1.rebase, ⟨(fun _ h => by cases h), fun C d dd v H2 her fr hs ht hdd hxd hdw => ?_⟩, hd, fun v d W' ρ' H2 hR sb ex S' w => ?_⟩
    · obtain ⟨wd, m, ho, hR⟩ := her
      obtain ⟨S2, ex2⟩ := S2of fr hs ht
      refine ⟨C, wd, m, rfl, dd, v, d, W, rfl, hxd, hdw, ho, fun H' p sm hp => ?_⟩
      exact kk _ _ W ρ _ hR (fun _ z => z) (ex2.trans (Ext.same (sm.trans (same_upd hp)))) ((S2.same sm).alloc hp) (Dw.newLst hp ((S2.same sm).fresh hp) (.cons (.str _) (.cons (.str _) .nil)))
    · obtain ⟨S2, ex2⟩ := S2of S'.frame (fun a ha => (S'.src a ha).2.2) S'.tab.1
      exact kk _ _ W ρ _ hR (fun _ z => z) ex2 S2 (w.to (Ext.refl _ _) S'.sub)
theorem de_caught2D {q : Str} {cs : List (Addr × Str)} {dt : DE} {a : Str} {c P : Addr} {st : Stmt} {Ng : List Str} {params : Arguments} {body : Expr} {scope : Scope} {lpos : Pos} (Dc : DefAt X.K X.mg x st [a]) (Sg : FnScope Ng [a] (defScope st)) (n0 : Ng[0]? = some a) (va : Vis (defScope st) a)
    (G : ∀ (g : Addr) (cdg : Value), GivesTo X Ng x (defScope st) g cdg (defBody st) a q (TT2 X.K cs))
    (B : TabB X.base X.mg c P) (cd : X.env.code = .ref c) (hq : q = X.env.qual ++ "<lambda>") (hr : Room (k + 2) X.A) (hgd : X.A.guards = some []) (L : lamSB X.env.scope scope = true)
    (bd : ∀ (A : Around) (outer : List Env) (s : Shared) (H : Hp) (E : XK) (f d : Addr), Room k (A.deeper (lamEnv X scope s.heap.objs.size f d)) → A.guards = some [] → DEx (lamCx X A outer s H E scope f d) E body dt)
    (gl : Gl X x := by rfl) (nodef : defaultsOf params X.env = ([], []) := by rfl)
    (bnd : ∀ (q : Str) (cl : List (Str × Addr)) (pm cv ctv : Value), bindArgs (PySem.W.kla_fn "<lambda>" q params body scope cl pm cv ctv) ⟨[], []⟩ = pure [] := by intros; rfl)
    (d1 : (x == ("__debug__" : Str)) = false := by decide) (d2 : (a == ("__debug__" : Str)) = false := by decide) (d3 : (a == ("__classdict__" : Str)) = false := by decide) :
    DEx X EX (.Call (.Name x p) [.Lambda params body scope lpos] [] pos) (dCaught2 P q cs dt) := by
  obtain ⟨g, fd, F, mm, bi⟩ := Dc.ex
  have kp := F.kp
  obtain ⟨oc, od, kV, doc, pm, an, cdv, ct, osl, rfl, lk, hcd⟩ := F.ex
  exact de_caught2 gl mm kp lk hcd bi Sg n0 va (G g cdv) hq B cd hr hgd (lamS_by L) nodef bnd bd d1 d2 d3
end
end DD

/-! zip of two lists, or of two tuples, over data; what the end asks of a module's constants. -/
namespace DD
open PySem L2 PyProof.Rows
def zipD (xs ys : List PyData) : List PyData := (xs.zip ys).map fun p => .tuple [p.1, p.2]
theorem zipD_get {xs ys : List PyData} {j : Nat} {d : PyData} (h : (zipD xs ys)[j]? = some d) : ∃ x y, xs[j]? = some x ∧ ys[j]? = some y ∧ d = .tuple [x, y] := by
  unfold zipD at h
  rw [List.getElem?_map, Option.map_eq_some_iff] at h
  obtain ⟨⟨x, y⟩, h1, rfl⟩ := h
  obtain ⟨a, b⟩ := List.getElem?_zip_eq_some.mp h1
  exact ⟨x, y, a, b, rfl⟩
theorem zipD_length (xs ys : List PyData) : (zipD xs ys).length = min xs.length ys.length := by simp [zipD]
section
variable {X : Cx} {EX : XK}
theorem it_zipL {K : Fg} {W : List Addr} {H : Hp} {a b : Addr} {xs ys : List PyData} (h : Dw K H W (.ref a) (.list xs)) (h2 : Dw K H W (.ref b) (.list ys)) : ItOk K (Itz K a b) W H (zipD xs ys) := by
  refine ⟨fun j W2 H2 d st fr hj => ?_, fun j W2 H2 st hj => ?_⟩
  · obtain ⟨x, y, hx, hy, rfl⟩ := zipD_get hj
    obtain ⟨us, g1, q⟩ := (st.dw h).sqL
    obtain ⟨vs, g2, r⟩ := (st.dw h2).sqL
    obtain ⟨u, hu, du⟩ := q.get hx
    obtain ⟨v, hv, dv⟩ := r.get hy
    refine ⟨⟨us, vs, u, v, g1, g2, hu, hv⟩, ?_⟩
    rintro z H3 ⟨p, u', v', rfl, hp, rfl, all1, all2⟩
    have e1 := all1 us g1
    have e2 := all2 vs g2
    rw [hu] at e1
    rw [hv] at e2
    cases e1
    cases e2
    exact ⟨same_upd hp, Dw.newTup hp (fr p hp) (.cons du (.cons dv .nil))⟩
  · obtain ⟨us, g1, q⟩ := (st.dw h).sqL
    obtain ⟨vs, g2, r⟩ := (st.dw h2).sqL
    rw [zipD_length] at hj
    exact ⟨us, vs, g1, g2, by rw [q.length, r.length]; omega⟩
theorem it_zipT {K : Fg} {W : List Addr} {H : Hp} {a b : Addr} {xs ys : List PyData} (h : Dw K H W (.ref a) (.tuple xs)) (h2 : Dw K H W (.ref b) (.tuple ys)) : ItOk K (RZ.ItzT K a b) W H (zipD xs ys) := by
  refine ⟨fun j W2 H2 d st fr hj => ?_, fun j W2 H2 st hj => ?_⟩
  · obtain ⟨x, y, hx, hy, rfl⟩ := zipD_get hj
    obtain ⟨us, g1, q⟩ := (st.dw h).sqT
    obtain ⟨vs, g2, r⟩ := (st.dw h2).sqT
    obtain ⟨u, hu, du⟩ := q.get hx
    obtain ⟨v, hv, dv⟩ := r.get hy
    refine ⟨⟨us, vs, u, v, g1, g2, hu, hv⟩, ?_⟩
    rintro z H3 ⟨p, u', v', rfl, hp, rfl, all1, all2⟩
    have e1 := all1 us g1
    have e2 := all2 vs g2
    rw [hu] at e1
    rw [hv] at e2
    cases e1
    cases e2
    exact ⟨same_upd hp, Dw.newTup hp (fr p hp) (.cons du (.cons dv .nil))⟩
  · obtain ⟨us, g1, q⟩ := (st.dw h).sqT
    obtain ⟨vs, g2, r⟩ := (st.dw h2).sqT
    rw [zipD_length] at hj
    exact ⟨us, vs, g1, g2, by rw [q.length, r.length]; omega⟩
/-- zip(a, b): two lists, or two tuples -/
def dZip (a b : DE) : DI := fun ρ R Er => a ρ (fun d ρ1 => b ρ1 (fun e ρ2 => match d, e with | .list xs, .list ys => R (zipD xs ys) ρ2 | .tuple xs, .tuple ys => R (zipD xs ys) ρ2 | _, _ => False) Er) Er
theorem di_zip {e e2 : Expr} {da db : DE} {p pos tpos : Pos} {elts : List Expr} {kk : Nat} (gl : Gl X "zip") (mm : X.mg "zip" = none) (ha : DEx X EX e da) (hb : DEx X EX e2 db)
    (hs : starEach [e, e2] X.env = (false, eval e X.env) :: starEach [e2] X.env := by rfl) (hs2 : starEach [e2] X.env = (false, eval e2 X.env) :: starEach [] X.env := by rfl) (hpl : (backTo pos (starEach [e2] X.env)).any (·.1) = false := by rfl) :
    DIx X EX (.Tuple elts kk tpos) (.Call (.Name "zip" p) [e, e2] [] pos) (dZip da db) := by
  obtain ⟨ta, pa, qa⟩ := ha.ex
  obtain ⟨tb, pb, qb⟩ := hb.ex
  refine ⟨_, RZ.pi_zipA gl mm (pa_cons pa (pa_cons pb pa_nil hs2) hs) hs hpl, fun s H0 W0 W σ ρ H R Er Q S eo hd k => ?_⟩
  refine qa s H0 W0 W σ ρ H _ Er _ S eo hd fun v d W1 ρ1 H1 hd1 s1 e1 S1 w1 => ?_
  refine qb s H0 W0 W1 σ ρ1 H1 _ Er _ S1 eo hd1 fun u y W2 ρ2 H2 hd2 s2 e2 S2 w2 => ?_
  have w1' := w1.to e2 s2
  split at hd2
  · obtain ⟨a, rfl⟩ := w1'.lstV
    obtain ⟨b, rfl⟩ := w2.lstV
    obtain ⟨xs, h1, _⟩ := w1'.sqL
    obtain ⟨ys, h2, _⟩ := w2.sqL
    exact ⟨a, b, xs, ys, rfl, .inl ⟨h1, h2, k _ _ W2 ρ2 H2 hd2 (sub_tr s2 s1) (ext_tr e1 e2 s1) S2 (it_zipL w1' w2)⟩⟩
  · obtain ⟨a, rfl⟩ := w1'.tupV
    obtain ⟨b, rfl⟩ := w2.tupV
    obtain ⟨xs, h1, _⟩ := w1'.sqT
    obtain ⟨ys, h2, _⟩ := w2.sqT
    exact ⟨a, b, xs, ys, rfl, .inr ⟨h1, h2, k _ _ W2 ρ2 H2 hd2 (sub_tr s2 s1) (ext_tr e1 e2 s1) S2 (it_zipT w1' w2)⟩⟩
  · exact hd2.elim
end
theorem glob_str {K : Fg} {h : Heap} {mg : Str → Option Value} (X : K.In h) (G : h.Ns mainGlobals mg) {x z : Str} {t : Tok} (a : PySem.W.nsIn K mainGlobals x = some (some (.str z t))) : ∃ t, mg x = some (.str z t) := ⟨t, PySem.W.mg_of X G a⟩
end DD

/-! a, b, c = x, y, z -/
namespace DD
open PySem L2
section
variable {X : Cx} {EX : XK} {st : Stmt}
def sPar3 (i j l : Nat) (a : DA) : DS := fun D ρ Er => a ρ (fun ds ρ1 => match ds with | [d, e, f] => D.nx (((ρ1.set i (some (.dat d))).set j (some (.dat e))).set l (some (.dat f))) | _ => False) Er
theorem ds_par3 {i j l : Nat} {es : List Expr} {d : DA} (mk : ∀ ta, PA X es ta → PS X st (tPar3 i j l ta)) (ha : DAx X EX es d) : DSx X EX st (sPar3 i j l d) := by
  obtain ⟨t, p, q⟩ := ha.ex
  refine ⟨_, mk t p, fun s H0 W0 W σ ρ H D Er E S eo hd k => ?_⟩
  refine q s H0 W0 W σ ρ H _ Er _ S eo hd fun vs ds W1 ρ1 H1 hd1 s1 e1 S1 w1 => ?_
  split at hd1
  · cases w1 with
    | cons a b => cases b with
      | cons c d => cases d with
        | cons e f => cases f; exact ⟨_, _, _, rfl, k.nx W1 _ _ H1 hd1 (Step.of s1 e1) (((S1.set a).set c).set e)⟩
  · exact hd1.elim
end
/-! ### what the end asks of a module's tuples of ints and texts -/
def conv : List Value → Option (List (V × PyData))
  | [] => some []
  | .int i _ :: r => (conv r).map ((V.int i, PyData.int i) :: ·)
  | .str z _ :: r => (conv r).map ((V.str z, PyData.str z) :: ·)
  | _ => none
theorem conv_dw {K : Fg} {H : Hp} {W : List Addr} : ∀ {vs : List Value} {zs : List (V × PyData)}, conv vs = some zs → DwA K H W (zs.map (·.1)) (zs.map (·.2)) ∧ Vals (zs.map (·.1)) vs
  | [], _, h => by cases h; exact ⟨.nil, .nil⟩
  | v :: r, zs, h => by
    cases v with
    | int i t =>
      simp only [conv, Option.map_eq_some_iff] at h
      obtain ⟨ys, h, rfl⟩ := h
      obtain ⟨a, b⟩ := conv_dw (K := K) (H := H) (W := W) h
      exact ⟨.cons (.int _) a, .cons ⟨_, rfl⟩ b⟩
    | str z t =>
      simp only [conv, Option.map_eq_some_iff] at h
      obtain ⟨ys, h, rfl⟩ := h
      obtain ⟨a, b⟩ := conv_dw (K := K) (H := H) (W := W) h
      exact ⟨.cons (.str _) a, .cons ⟨_, rfl⟩ b⟩
    | _ => cases h
theorem gtup_mk {K : Fg} {h : Heap} {mg : Str → Option Value} (X : K.In h) (G : h.Ns mainGlobals mg) {x : Str} {a : Addr} {o : Obj} {its : Array Value} {n : Nat} {zs : List (V × PyData)} {ds : List PyData}
    (g : PySem.W.nsIn K mainGlobals x = some (some (.ref a))) (l : K.lookup a = some o) (hc : o.cls = .type "tuple") (hd : o.data = .seq its n) (hz : its.size ≤ 1000) (hv : conv its.toList = some zs) (he : zs.map (·.2) = ds) : GTup K mg x ds := by
  subst he
  refine ⟨a, zs.map (·.1), PySem.W.mg_of X G g, ⟨o, its, n, l, hc, hd, by rw [sizeLine_eq]; omega, (conv_dw (K := K) (H := fun _ => none) (W := []) hv).2⟩, fun H W => (conv_dw hv).1⟩
/-- what the end asks of a class for isinstance -/
theorem isOk_one {K : Fg} {C : Addr} {w : Str} (A : IsA K C) (X : XfC K C) (nv : PySem.W.findIn K (.ref C) "value" = some none) (k : PySem.W.kitOne K (.ref C) (.ref C) = some true) : IsOk K [(C, w)] := by
  refine ⟨fun p hp q hq => ?_, fun p hp q hq _ => ?_, fun p hp => ?_⟩
  · rw [List.mem_singleton] at hp hq
    subst hp hq
    rw [k]; simp
  · rw [List.mem_singleton] at hp hq
    rw [hp, hq]
  · rw [List.mem_singleton] at hp
    subst hp
    exact ⟨A, X, nv⟩
end DD

/-! zip of a list with a tuple. -/
namespace DD
open PySem PySem.Spec PyProof.Rows L2
section
variable {prog : Program} {w : World} {A : Around} {E : Value → Shared → Prop} {s : Shared}
/-- the pair of iterators: of a list, of a tuple -/
structure LT (h : Heap) (l it p ip : Addr) (j : Nat) (us vs : Array Value) : Prop where
  li : h.IsListIter it l j
  ti : h.IsTupleIter ip p j
  ls : h.IsList l us
  tp : h.IsTuple p vs
theorem zlt_step {z TI TO it ip l p : Addr} {j : Nat} {us vs : Array Value} {u v a b : Value} {Q : Value → Shared → Prop} (D : ZipApart z TI TO it ip l p) (hz : IsZip s.heap z TI TO .none) (pI : IsPair s.heap TI (.ref it) (.ref ip)) (pO : IsPair s.heap TO a b)
    (m : LT s.heap l it p ip j us vs) (hu : us[j]? = some u) (hv : vs[j]? = some v)
    (k : ∀ g : Heap, IsZip g z TI TO (rawInt s.heap.objs.size) → IsPair g TO u v → g.IsListIter it l (j + 1) → g.IsTupleIter ip p (j + 1) → IsPair g s.heap.objs.size u v → g.objs.size = s.heap.objs.size + 1 →
      (∀ c o, c ≠ z ∧ c ≠ TO ∧ c ≠ it ∧ c ≠ ip → s.heap.get? c = some o → g.get? c = some o) → Q (.ref s.heap.objs.size) { s with heap := g }) :
    wpAny (model prog w) A (Builtin.«zip.__next__» ⟨[.ref z], []⟩) (fun f t => ∃ y, f = .done (.ret y) ∧ Q y t) E s := by
  refine wpAny_bind (m := field (.ref z) 2) (wpAny_field hz rfl (x := .bool false) rfl (wpAny_bind (m := field (.ref z) 3) (wpAny_field hz rfl (x := .ref TI) rfl ?_)))
  refine wpAny_bind (wpAny_seqItems pI rfl (wpAny_bind (m := Builtin.SmallTypes.ownedTupleIsFree (.ref z)) ?_)); unfold Builtin.SmallTypes.ownedTupleIsFree
  refine wpAny_bind (wpAny_field hz rfl (x := .none) rfl (wpAny_pure ?_)); rw [if_pos rfl]; refine wpAny_bind (wpAny_rule (wpAny_bind (wpAny_field hz rfl (x := .ref TO) rfl ?_)))
  refine wpAny_bind (wpAny_setField_rec hz (by simp) fun g1 z1 n1 => wpAny_bind ?_)
  replace z1 : IsZip g1 z TI TO .ellipsis := z1
  simp only [List.forIn_cons, List.forIn_nil, List.zipIdx_cons, List.zipIdx_nil]
  refine wpAny_bind (wpAny_bind (wpAny_onRaise (wpAny_bind (m := Builtin.SmallTypes.nextOf (.ref it)) (wpAny_nextOf_list_item (m.li.extBut n1.extBut D.i1z) (m.ls.extBut n1.extBut D.l1z) hu fun g2 i2 n2 => wpAny_pure ?_))))
  have o2 : IsPair g2 TO a b := n2.extBut _ _ D.TOi1 (n1.extBut _ _ D.TOz pO)
  refine wpAny_bind (wpAny_seqItems o2 rfl (wpAny_bind (wpAny_updateSeq_pair o2 fun g3 o3 n3 => wpAny_bind (wpAny_letGo (wpAny_pure ?_)))))
  replace o3 : IsPair g3 TO u b := o3
  have j3 : g3.IsTupleIter ip p j := ((m.ti.extBut n1.extBut D.i2z).extBut n2.extBut D.i12.symm).extBut n3.extBut D.TOi2.symm
  have t3 : g3.IsTuple p vs := ((m.tp.extBut n1.extBut D.l2z).extBut n2.extBut D.l2i1).extBut n3.extBut D.l2TO
  refine wpAny_bind (wpAny_bind (wpAny_onRaise (wpAny_bind (m := Builtin.SmallTypes.nextOf (.ref ip)) (RZ.nextOf_tuple_item j3 t3 hv fun g4 i4 n4 => wpAny_pure ?_))))
  have o4 : IsPair g4 TO u b := n4.extBut _ _ D.TOi2 o3
  refine wpAny_bind (wpAny_seqItems o4 rfl (wpAny_bind (wpAny_updateSeq_pair o4 fun g5 o5 n5 => wpAny_bind (wpAny_letGo (wpAny_pure (wpAny_pure ?_))))))
  replace o5 : IsPair g5 TO u v := o5
  refine wpAny_bind (wpAny_seqItems o5 rfl (wpAny_bind (wpAny_newTuple ?_)))
  have sz : g5.objs.size = s.heap.objs.size := by rw [n5.1, n4.1, n3.1, n2.1, n1.1]
  have z5 : IsZip g5 z TI TO .ellipsis := n5.extBut _ _ D.TOz.symm (n4.extBut _ _ D.i2z.symm (n3.extBut _ _ D.TOz.symm (n2.extBut _ _ D.i1z.symm z1)))
  have kp : ∀ c o, c ≠ z ∧ c ≠ TO ∧ c ≠ it ∧ c ≠ ip → s.heap.get? c = some o → g5.get? c = some o := fun c o q e =>
    n5.extBut _ _ q.2.1 (n4.extBut _ _ q.2.2.2 (n3.extBut _ _ q.2.1 (n2.extBut _ _ q.2.2.1 (n1.extBut _ _ q.1 e))))
  have li5 : g5.IsListIter it l (j + 1) := ((i2.extBut n3.extBut D.TOi1.symm).extBut n4.extBut D.i12).extBut n5.extBut D.TOi1.symm
  have ti5 : g5.IsTupleIter ip p (j + 1) := i4.extBut n5.extBut D.TOi2.symm
  have zl : z < g5.objs.size := Heap.lt_size z5
  refine wpAny_bind (m := Builtin.SmallTypes.ownedTupleHandOut (.ref z) (.ref g5.objs.size)) ?_; unfold Builtin.SmallTypes.ownedTupleHandOut
  have z6 : IsZip (g5.push { cls := .type "tuple", data := .seq #[u, v] }) z TI TO .ellipsis := Heap.get?_push_of_some _ z5
  refine wpAny_bind (wpAny_setField_rec z6 (by simp) fun g7 z7 n7 => ?_)
  replace z7 : IsZip g7 z TI TO (rawInt g5.objs.size) := z7
  refine wpAny_setField_rec z7 (by simp) fun g8 z8 n8 => wpAny_pure ⟨_, rfl, ?_⟩
  replace z8 : IsZip g8 z TI TO (rawInt g5.objs.size) := z8
  have up : ∀ c o, c ≠ z → g5.get? c = some o → g8.get? c = some o := fun c o q e => n8.extBut _ _ q (n7.extBut _ _ q (Heap.get?_push_of_some _ e))
  have t8 : IsPair g8 g5.objs.size u v := n8.extBut _ _ (Nat.ne_of_gt zl) (n7.extBut _ _ (Nat.ne_of_gt zl) (Heap.get?_push_size _ rfl))
  have s8 : g8.objs.size = g5.objs.size + 1 := by rw [n8.1, n7.1, Heap.size_push]
  rw [sz] at z8 t8 s8
  show Q (.ref g5.objs.size) _
  rw [sz]
  exact k g8 z8 (up _ _ D.TOz o5) (li5.at fun o e => up _ o D.i1z e) (ti5.at fun o e => up _ o D.i2z e) t8 s8 fun c o q e => up c o q.1 (kp c o q e)
theorem zlt_stop {z TI TO it ip l p : Addr} {j : Nat} {us vs : Array Value} {a b : Value} {Q : Fin → Shared → Prop} (hh : A.handled = none) (D : ZipApart z TI TO it ip l p) (hz : IsZip s.heap z TI TO .none) (pI : IsPair s.heap TI (.ref it) (.ref ip)) (pO : IsPair s.heap TO a b)
    (m : LT s.heap l it p ip j us vs) (hend : us[j]? = none ∨ vs[j]? = none)
    (k : ∀ (g : Heap) (e : Addr), (∀ c o, c ≠ z ∧ c ≠ TO ∧ c ≠ it ∧ c ≠ ip → s.heap.get? c = some o → g.get? c = some o) → (∃ o, g.get? e = some o ∧ o.cls = .type "StopIteration") → E (.ref e) { s with heap := g }) :
    wpAny (model prog w) A (Builtin.«zip.__next__» ⟨[.ref z], []⟩) Q E s := by
  refine wpAny_bind (m := field (.ref z) 2) (wpAny_field hz rfl (x := .bool false) rfl (wpAny_bind (m := field (.ref z) 3) (wpAny_field hz rfl (x := .ref TI) rfl ?_)))
  refine wpAny_bind (wpAny_seqItems pI rfl (wpAny_bind (m := Builtin.SmallTypes.ownedTupleIsFree (.ref z)) ?_)); unfold Builtin.SmallTypes.ownedTupleIsFree
  refine wpAny_bind (wpAny_field hz rfl (x := .none) rfl (wpAny_pure ?_)); rw [if_pos rfl]; refine wpAny_bind (wpAny_rule (wpAny_bind (wpAny_field hz rfl (x := .ref TO) rfl ?_)))
  refine wpAny_bind (wpAny_setField_rec hz (by simp) fun g1 z1 n1 => wpAny_bind ?_)
  replace z1 : IsZip g1 z TI TO .ellipsis := z1
  simp only [List.forIn_cons, List.forIn_nil, List.zipIdx_cons, List.zipIdx_nil]
  refine wpAny_bind (wpAny_bind (wpAny_onRaise (wpAny_bind (m := Builtin.SmallTypes.nextOf (.ref it)) ?_)))
  cases hu : us[j]? with
  | none =>
    refine wpAny_nextOf_list_end hh (m.li.extBut n1.extBut D.i1z) (m.ls.extBut n1.extBut D.l1z) hu fun g2 e n2 he => ?_
    obtain ⟨oe, q1, q2⟩ := he
    have z2 : IsZip g2 z TI TO .ellipsis := n2 _ _ D.i1z.symm z1
    have ne : e ≠ z := fun x => by subst x; rw [z2] at q1; cases q1; simp at q2
    exact wpAny_setField_rec z2 (by simp) fun g3 _ n3 => k g3 e (fun c o q x => n3.extBut _ _ q.1 (n2 _ _ q.2.2.1 (n1.extBut _ _ q.1 x))) ⟨oe, n3.extBut _ _ ne q1, q2⟩
  | some u =>
    have hv : vs[j]? = none := hend.resolve_left (by rw [hu]; exact fun h => nomatch h)
    refine wpAny_nextOf_list_item (m.li.extBut n1.extBut D.i1z) (m.ls.extBut n1.extBut D.l1z) hu fun g2 i2 n2 => wpAny_pure ?_
    have o2 : IsPair g2 TO a b := n2.extBut _ _ D.TOi1 (n1.extBut _ _ D.TOz pO)
    refine wpAny_bind (wpAny_seqItems o2 rfl (wpAny_bind (wpAny_updateSeq_pair o2 fun g3 o3 n3 => wpAny_bind (wpAny_letGo (wpAny_pure ?_)))))
    have j3 : g3.IsTupleIter ip p j := ((m.ti.extBut n1.extBut D.i2z).extBut n2.extBut D.i12.symm).extBut n3.extBut D.TOi2.symm
    have t3 : g3.IsTuple p vs := ((m.tp.extBut n1.extBut D.l2z).extBut n2.extBut D.l2i1).extBut n3.extBut D.l2TO
    refine wpAny_bind (wpAny_bind (wpAny_onRaise (wpAny_bind (m := Builtin.SmallTypes.nextOf (.ref ip)) (RZ.nextOf_tuple_end hh j3 t3 hv fun g4 e n4 he => ?_))))
    obtain ⟨oe, q1, q2⟩ := he
    have z4 : IsZip g4 z TI TO .ellipsis := n4 _ _ D.i2z.symm (n3.extBut _ _ D.TOz.symm (n2.extBut _ _ D.i1z.symm z1))
    have ne : e ≠ z := fun x => by subst x; rw [z4] at q1; cases q1; simp at q2
    exact wpAny_setField_rec z4 (by simp) fun g5 _ n5 => k g5 e (fun c o q x => n5.extBut _ _ q.1 (n4 _ _ q.2.2.2 (n3.extBut _ _ q.2.1 (n2.extBut _ _ q.2.2.1 (n1.extBut _ _ q.1 x))))) ⟨oe, n5.extBut _ _ ne q1, q2⟩
end
end DD

/-! zip of any two of lists and tuples, over data. -/
namespace DD
open PySem PySem.Spec PyProof.Rows L2
section
variable {prog : Program} {w : World} {A : Around} {E : Value → Shared → Prop} {s : Shared}
theorem zlt_next {z TI TO it ip l p : Addr} {j : Nat} {us vs : Array Value} {u v a b : Value} {Q : Option Value → Shared → Prop} (D : ZipApart z TI TO it ip l p) (hz : IsZip s.heap z TI TO .none) (pI : IsPair s.heap TI (.ref it) (.ref ip)) (pO : IsPair s.heap TO a b)
    (m : LT s.heap l it p ip j us vs) (hu : us[j]? = some u) (hv : vs[j]? = some v)
    (k : ∀ g : Heap, IsZip g z TI TO (rawInt s.heap.objs.size) → IsPair g TO u v → g.IsListIter it l (j + 1) → g.IsTupleIter ip p (j + 1) → IsPair g s.heap.objs.size u v → g.objs.size = s.heap.objs.size + 1 →
      (∀ c o, c ≠ z ∧ c ≠ TO ∧ c ≠ it ∧ c ≠ ip → s.heap.get? c = some o → g.get? c = some o) → Q (some (.ref s.heap.objs.size)) { s with heap := g }) :
    wpAny (model prog w) A (pyNext (.ref z)) Q E s := by
  have ty : s.TypeIs (.ref z) "zip" := ⟨_, hz, rfl⟩
  have st := zlt_step (prog := prog) (w := w) (A := A.in1) (E := E) (s := s) (Q := fun y t => wpAny (model prog w) A (pure (some y)) Q E t) D hz pI pO m hu hv fun g a1 a2 a3 a4 a5 a6 a7 => wpAny_pure (k g a1 a2 a3 a4 a5 a6 a7)
  unfold pyNext
  refine wpAny_bind (wpAny_attempt (wpAny_callSpecial?_slot (name := Str.ofString "__next__") ty F.slot_zip_next (wpAny_call_entry F.slot_zip_next ty F.entry_zip_next (zlt_step D hz pI pO m hu hv fun g a1 a2 a3 a4 a5 a6 a7 => ?_) (F.args_zip_next_1 _))))
  exact wpAny_pure (k g a1 a2 a3 a4 a5 a6 a7)
theorem zlt_over {z TI TO it ip l p : Addr} {j : Nat} {us vs : Array Value} {a b : Value} {Q : Option Value → Shared → Prop} (hh : A.handled = none) (D : ZipApart z TI TO it ip l p) (hz : IsZip s.heap z TI TO .none) (pI : IsPair s.heap TI (.ref it) (.ref ip)) (pO : IsPair s.heap TO a b)
    (m : LT s.heap l it p ip j us vs) (hend : us[j]? = none ∨ vs[j]? = none)
    (k : ∀ g : Heap, (∀ c o, c ≠ z ∧ c ≠ TO ∧ c ≠ it ∧ c ≠ ip → s.heap.get? c = some o → g.get? c = some o) → Q none { s with heap := g }) : wpAny (model prog w) A (pyNext (.ref z)) Q E s := by
  have ty : s.TypeIs (.ref z) "zip" := ⟨_, hz, rfl⟩
  unfold pyNext
  refine wpAny_bind (wpAny_attempt (wpAny_callSpecial?_slot (name := Str.ofString "__next__") ty F.slot_zip_next (wpAny_call_entry F.slot_zip_next ty F.entry_zip_next (zlt_stop hh D hz pI pO m hend fun g e kp he => ?_) (F.args_zip_next_1 _))))
  obtain ⟨o, q1, q2⟩ := he
  exact wpAny_bind (wpAny_isInstance (T := "StopIteration") (b := true) ⟨o, q1, q2⟩ isSubtype_stop (wpAny_pure (k _ kp)))
abbrev zl1 (h : Heap) (l : Addr) : Heap := h.push { cls := .type "list_iterator", data := .fields #[.ref l, .int 0 0] }
abbrev zl2 (h : Heap) (l p : Addr) : Heap := (zl1 h l).push { cls := .type "tuple_iterator", data := .fields #[.ref p, .int 0 0] }
abbrev zl3 (h : Heap) (l p : Addr) : Heap := (zl2 h l p).push { cls := .type "tuple", data := .seq #[.ref h.objs.size, .ref (zl1 h l).objs.size] }
abbrev zl4 (h : Heap) (l p : Addr) : Heap := (zl3 h l p).push { cls := .type "tuple", data := .seq #[.none, .none] }
abbrev zl5 (h : Heap) (l p : Addr) : Heap := (zl4 h l p).push { cls := .type "zip", data := .fields #[.none, .bool false, .bool false, .ref (zl2 h l p).objs.size, .ref (zl3 h l p).objs.size] }
theorem zl_new (l p : Addr) (us vs : Array Value) :
    Meets (Builtin.«zip.__new__» ⟨[.type "zip", .ref l, .ref p], []⟩) (fun _ R s => s.heap.IsList l us ∧ s.heap.IsTuple p vs ∧ R (.ok (.ret (.ref (zl4 s.heap l p).objs.size))) { s with heap := zl5 s.heap l p }) :=
  .of_wp fun prog w A R s h => by
    obtain ⟨hp, g, d, tk, os⟩ := s; obtain ⟨a1, a2, h⟩ := h
    have sub := sub_zip
    have b1 : Heap.IsList (Shared.heap ⟨hp, g, d, tk, os⟩) l us := a1
    have b2 : Heap.IsTuple (Shared.heap ⟨hp.push { cls := .type "list_iterator", data := .fields #[.ref l, .int 0 0] }, g, d, tk, os⟩) p vs := Heap.IsTuple.push a2 _
    wp_walk using wpAny_pyIter_list b1, wpAny_pyIter_tuple b2
    exact ⟨_, rfl, h⟩
theorem call_zl {l p : Addr} {us vs : Array Value} {Q : Value → Shared → Prop} (a1 : s.heap.IsList l us) (a2 : s.heap.IsTuple p vs)
    (k : ∀ g : Heap, IsZip g (s.heap.objs.size + 4) (s.heap.objs.size + 2) (s.heap.objs.size + 3) .none → IsPair g (s.heap.objs.size + 2) (.ref s.heap.objs.size) (.ref (s.heap.objs.size + 1)) → IsPair g (s.heap.objs.size + 3) .none .none →
      g.IsListIter s.heap.objs.size l 0 → g.IsTupleIter (s.heap.objs.size + 1) p 0 → (∀ c o, s.heap.get? c = some o → g.get? c = some o) → Q (.ref (s.heap.objs.size + 4)) { s with heap := g }) :
    wpAny (model prog w) A (call (.type "zip") [.ref l, .ref p]) Q E s := by
  refine callType_new F.called_zip (by decide) (F.typeCall_zip_2 _ _) (F.newCall_zip_2 _ _) (fun obj => F.args_object_init_3 obj _ _) F.entry_zip_new (zl_new l p us vs) ⟨a1, a2, ?_⟩
  have n1 : (zl1 s.heap l).objs.size = s.heap.objs.size + 1 := Heap.size_push ..
  have n2 : (zl2 s.heap l p).objs.size = s.heap.objs.size + 2 := by rw [Heap.size_push, n1]
  have n3 : (zl3 s.heap l p).objs.size = s.heap.objs.size + 3 := by rw [Heap.size_push, n2]
  have n4 : (zl4 s.heap l p).objs.size = s.heap.objs.size + 4 := by rw [Heap.size_push, n3]
  have up : ∀ (h : Heap) (o : Obj) {c : Addr} {u : Obj}, h.get? c = some u → (h.push o).get? c = some u := fun h o _ _ e => Heap.get?_push_of_some _ e
  have q5 : (zl5 s.heap l p).get? (zl4 s.heap l p).objs.size = some _ := Heap.get?_push_size _ rfl
  have q4 : (zl5 s.heap l p).get? (zl3 s.heap l p).objs.size = some _ := up _ _ (Heap.get?_push_size _ rfl)
  have q3 : (zl5 s.heap l p).get? (zl2 s.heap l p).objs.size = some _ := up _ _ (up _ _ (Heap.get?_push_size _ rfl))
  have q2 : (zl5 s.heap l p).get? (zl1 s.heap l).objs.size = some _ := up _ _ (up _ _ (up _ _ (Heap.get?_push_size _ rfl)))
  have q1 : (zl5 s.heap l p).get? s.heap.objs.size = some _ := up _ _ (up _ _ (up _ _ (up _ _ (Heap.get?_push_size _ rfl))))
  rw [n2, n3, n4] at q5; rw [n3] at q4; rw [n1, n2] at q3; rw [n1] at q2
  show _ ∧ _
  rw [n4]
  exact ⟨⟨_, q5, rfl⟩, k _ q5 q3 q4 ⟨_, q1, rfl, rfl⟩ ⟨_, q2, rfl, rfl⟩ fun c o e => up _ _ (up _ _ (up _ _ (up _ _ (up _ _ e))))⟩
/-- a list and a tuple as they stand at each turn -/
def ItzM (K : Fg) (a b : Addr) : It :=
  ⟨fun i H => ∃ (xs ys : List V) (x y : V), SqL K H a xs ∧ SqT K H b ys ∧ xs[i]? = some x ∧ ys[i]? = some y,
    fun i H v H' => ∃ T x y, v = .ref T ∧ H T = none ∧ H' = upd H T (.tup [x, y]) ∧ (∀ xs, SqL K H a xs → xs[i]? = some x) ∧ ∀ ys, SqT K H b ys → ys[i]? = some y,
    fun i H => ∃ xs ys : List V, SqL K H a xs ∧ SqT K H b ys ∧ (xs.length ≤ i ∨ ys.length ≤ i)⟩
theorem five {z TI TO it ip c : Addr} (h : c ∈ [z, TI, TO, it, ip]) : c = z ∨ c = TI ∨ c = TO ∨ c = it ∨ c = ip := by simpa using h
theorem notfive {z TI TO it ip c : Addr} (h : c ∉ [z, TI, TO, it, ip]) : c ≠ z ∧ c ≠ TO ∧ c ≠ it ∧ c ≠ ip := by
  simp only [List.mem_cons, List.not_mem_nil, or_false, not_or] at h
  exact ⟨h.1, h.2.2.1, h.2.2.2.1, h.2.2.2.2⟩
theorem turn_zl {P : Program} {w : World} {K : Fg} {elts : List Expr} {kk : Nat} {tpos : Pos} {a b z TI TO it ip : Addr} (D : ZipApart z TI TO it ip a b) :
    Turn P w K (.Tuple elts kk tpos) (ItzM K a b) [z, TI, TO, it, ip] z (fun i h => IsZip h z TI TO .none ∧ IsPair h TI (.ref it) (.ref ip) ∧ (∃ x y, IsPair h TO x y) ∧ h.IsListIter it a i ∧ h.IsTupleIter ip b i) where
  mem := List.mem_cons_self
  obj := by
    rintro i h ⟨hz, pI, ⟨x, y, pO⟩, ⟨o1, e1, _, d1⟩, o2, e2, _, d2⟩ c hc
    rcases five hc with rfl | rfl | rfl | rfl | rfl
    · exact ⟨_, hz, fun v q => nomatch q⟩
    · exact ⟨_, pI, fun v q => nomatch q⟩
    · exact ⟨_, pO, fun v q => nomatch q⟩
    · exact ⟨_, e1, fun v q => by rw [d1] at q; cases q⟩
    · exact ⟨_, e2, fun v q => by rw [d2] at q; cases q⟩
  keep := by
    rintro i h h' ⟨hz, pI, ⟨x, y, pO⟩, q1, q2⟩ k
    exact ⟨k _ (by simp) _ hz, k _ (by simp) _ pI, ⟨x, y, k _ (by simp) _ pO⟩, q1.at (k _ (by simp)), q2.at (k _ (by simp))⟩
  item := by
    rintro X rfl rfl rfl hc i pins s σ H E I hf ⟨hz, pI, ⟨x0, y0, pO⟩, q1, q2⟩ ⟨xs, ys, x, y, hx, hy, gx, gy⟩
    obtain ⟨us, ru, pu, _⟩ := I.list hx
    obtain ⟨vs, rv, pv, _⟩ := I.tuple hy
    obtain ⟨u, hu, r1⟩ := ru.get gx
    obtain ⟨v, hv, r2⟩ := rv.get gy
    have zl : z < s.heap.objs.size := Heap.lt_size hz
    refine zlt_next D hz pI pO ⟨q1, q2, pu.isList, pv⟩ (u := u) (v := v) (by simpa using hu) (by simpa using hv) fun g zg pg l1 t1 nt sz kp => ⟨_, rfl, ?_⟩
    refine wpAny_letOwnedTupleGo_zip (s := { s with heap := g }) zg fun g2 zg2 sb => ?_
    have nt2 : g2.get? s.heap.objs.size = some { cls := .type "tuple", data := .seq #[u, v] } := (sb.2 _ (Nat.ne_of_gt zl)).trans nt
    have ob : ObjOk X.prog X.w (upd H s.heap.objs.size (.tup [x, y])) g2 s.heap.objs.size (.tup [x, y]) := ⟨(by decide : 2 ≤ sizeLine), [u, v], .cons r1 (.cons r2 .nil), ⟨_, nt2, rfl, _, rfl⟩⟩
    have all : ∀ c o, c ∉ [z, TI, TO, it, ip] → s.heap.get? c = some o → g2.get? c = some o := fun c o hb q => (sb.2 c (notfive hb).1).trans (kp c o (notfive hb) q)
    have I2 : Inv X pins σ (upd H s.heap.objs.size (.tup [x, y])) { s with heap := g2 } := I.turnedNew (t' := s.toks) (ch := [z, TI, TO, it, ip]) (fun c o hb q => all c o hb q) hf (Nat.le_refl _) ob
    have fr := I.hok.fresh (Nat.le_refl s.heap.objs.size)
    refine ⟨.ref s.heap.objs.size, _, I2, rfl, ⟨_, x, y, rfl, fr, rfl, fun l hl => (I.list_inj hl hx).symm ▸ gx, fun l hl => (I.tuple_inj hl hy).symm ▸ gy⟩, ⟨zg2, (sb.2 _ D.TIz).trans (kp _ _ ⟨D.TIz, D.TITO, D.TIi1, D.TIi2⟩ pI), ⟨u, v, (sb.2 _ D.TOz).trans pg⟩, l1.at fun o q => (sb.2 _ D.i1z).trans q, t1.at fun o q => (sb.2 _ D.i2z).trans q⟩, fun c hcm => ?_⟩
    have lt : c < s.heap.objs.size := by
      obtain ⟨_, e1, _⟩ := id q1
      obtain ⟨_, e2, _⟩ := id q2
      rcases five hcm with rfl | rfl | rfl | rfl | rfl
      · exact zl
      · exact Heap.lt_size pI
      · exact Heap.lt_size pO
      · exact Heap.lt_size e1
      · exact Heap.lt_size e2
    rw [upd_ne (Nat.ne_of_lt lt)]
    exact (hf c hcm).1
  done := by
    rintro X rfl rfl rfl hc i pins s σ H E I hf ⟨hz, pI, ⟨x0, y0, pO⟩, q1, q2⟩ ⟨xs, ys, hx, hy, hend⟩
    obtain ⟨us, ru, pu, _⟩ := I.list hx
    obtain ⟨vs, rv, pv, _⟩ := I.tuple hy
    have e1 := ru.length
    have e2 := rv.length
    have he : us.toArray[i]? = none ∨ vs.toArray[i]? = none := hend.imp (fun q => by simp; omega) (fun q => by simp; omega)
    exact zlt_over (I.ok.hd hc) D hz pI pO ⟨q1, q2, pu.isList, pv⟩ he fun g kp => ⟨rfl, I.turnedL (t' := s.toks) (ch := [z, TI, TO, it, ip]) (fun c o hb q => kp c o (notfive hb) q) hf⟩
  self := fun A i s Q E st h => wpAny_pyIter_zip st.1 h
/-- two lists, two tuples, a list and a tuple -/
def iZipB (K : Fg) (ta : TA) : TI := fun σ H R => ta σ H fun vs H1 => ∃ a b xs ys, vs = [.ref a, .ref b] ∧ ((SqL K H1 a xs ∧ SqL K H1 b ys ∧ R (Itz K a b) H1) ∨ (SqT K H1 a xs ∧ SqT K H1 b ys ∧ R (RZ.ItzT K a b) H1) ∨ (SqL K H1 a xs ∧ SqT K H1 b ys ∧ R (ItzM K a b) H1))
theorem pi_zipB {X : Cx} {e e2 : Expr} {ta : TA} {p pos tpos : Pos} {elts : List Expr} {kk : Nat} (hg : Gl X "zip") (hm : X.mg "zip" = none) (ha : PA X [e, e2] ta)
    (hs : starEach [e, e2] X.env = (false, eval e X.env) :: starEach [e2] X.env) (hpl : (backTo pos (starEach [e2] X.env)).any (·.1) = false) : PI X (.Tuple elts kk tpos) (.Call (.Name "zip" p) [e, e2] [] pos) (iZipB X.K ta) := by
  constructor
  intro pins s σ H R I h
  refine Call_ (ld_blt I hg hm PyProof.Rows.boot_zip (PyProof.Rows.callWith_type1 (thn (ha.run pos pins s σ H _ I h) fun us s1 q => ?_) hs hpl))
  obtain ⟨vs, H1, I1, r1, a, b, xs, ys, rfl, q1⟩ := q
  rcases r1 with _ | ⟨ra, _ | ⟨rb, _ | _⟩⟩
  cases ra
  cases rb
  have n5 : ∀ c, c ∈ [s1.heap.objs.size + 4, s1.heap.objs.size + 2, s1.heap.objs.size + 3, s1.heap.objs.size, s1.heap.objs.size + 1] → FpOk X pins H1 c := fun c hcm => by
    have le : s1.heap.objs.size ≤ c := by rcases five hcm with rfl | rfl | rfl | rfl | rfl <;> omega
    exact I1.fpOk le (I1.hok.fresh le)
  rcases q1 with ⟨hx, hy, q⟩ | ⟨hx, hy, q⟩ | ⟨hx, hy, q⟩
  · obtain ⟨us, _, pu, _⟩ := I1.list hx
    obtain ⟨vs, _, pv, _⟩ := I1.list hy
    exact call_zip_2 pu.isList pv.isList fun g z1 z2 z3 z4 z5 _ kp => wpAny_pyIter_zip z1 ⟨_, _, _, _, H1, rfl, I1.kept (t' := s1.toks) kp, turn_zip (PySem.W.ktu_apart s1.heap.objs.size a b pu.lt pv.lt), ⟨z1, z2, ⟨_, _, z3⟩, z4, z5⟩, n5, q⟩
  · obtain ⟨us, _, pu, _⟩ := I1.tuple hx
    obtain ⟨vs, _, pv, _⟩ := I1.tuple hy
    obtain ⟨_, l1, _⟩ := id pu
    obtain ⟨_, l2, _⟩ := id pv
    exact RZ.call_zipT pu pv fun g z1 z2 z3 z4 z5 _ kp => wpAny_pyIter_zip z1 ⟨_, _, _, _, H1, rfl, I1.kept (t' := s1.toks) kp, RZ.turn_zipT (PySem.W.ktu_apart s1.heap.objs.size a b (Heap.lt_size l1) (Heap.lt_size l2)), ⟨z1, z2, ⟨_, _, z3⟩, z4, z5⟩, n5, q⟩
  · obtain ⟨us, _, pu, _⟩ := I1.list hx
    obtain ⟨vs, _, pv, _⟩ := I1.tuple hy
    obtain ⟨_, l2, _⟩ := id pv
    exact call_zl pu.isList pv fun g z1 z2 z3 z4 z5 kp => wpAny_pyIter_zip z1 ⟨_, _, _, _, H1, rfl, I1.kept (t' := s1.toks) kp, turn_zl (PySem.W.ktu_apart s1.heap.objs.size a b pu.lt (Heap.lt_size l2)), ⟨z1, z2, ⟨_, _, z3⟩, z4, z5⟩, n5, q⟩
end
section
variable {X : Cx} {EX : XK}
theorem it_zipM {K : Fg} {W : List Addr} {H : Hp} {a b : Addr} {xs ys : List PyData} (h : Dw K H W (.ref a) (.list xs)) (h2 : Dw K H W (.ref b) (.tuple ys)) : ItOk K (ItzM K a b) W H (zipD xs ys) := by
  refine ⟨fun j W2 H2 d st fr hj => ?_, fun j W2 H2 st hj => ?_⟩
  · obtain ⟨x, y, hx, hy, rfl⟩ := zipD_get hj
    obtain ⟨us, g1, q⟩ := (st.dw h).sqL
    obtain ⟨vs, g2, r⟩ := (st.dw h2).sqT
    obtain ⟨u, hu, du⟩ := q.get hx
    obtain ⟨v, hv, dv⟩ := r.get hy
    refine ⟨⟨us, vs, u, v, g1, g2, hu, hv⟩, ?_⟩
    rintro z H3 ⟨p, u', v', rfl, hp, rfl, all1, all2⟩
    have e1 := all1 us g1
    have e2 := all2 vs g2
    rw [hu] at e1
    rw [hv] at e2
    cases e1
    cases e2
    exact ⟨same_upd hp, Dw.newTup hp (fr p hp) (.cons du (.cons dv .nil))⟩
  · obtain ⟨us, g1, q⟩ := (st.dw h).sqL
    obtain ⟨vs, g2, r⟩ := (st.dw h2).sqT
    rw [zipD_length] at hj
    exact ⟨us, vs, g1, g2, by rw [q.length, r.length]; omega⟩
/-- zip(a, b): two lists, two tuples, a list and a tuple -/
def dZipB (a b : DE) : DI := fun ρ R Er => a ρ (fun d ρ1 => b ρ1 (fun e ρ2 => match d, e with | .list xs, .list ys => R (zipD xs ys) ρ2 | .tuple xs, .tuple ys => R (zipD xs ys) ρ2 | .list xs, .tuple ys => R (zipD xs ys) ρ2 | _, _ => False) Er) Er
theorem di_zipB {e e2 : Expr} {da db : DE} {p pos tpos : Pos} {elts : List Expr} {kk : Nat} (gl : Gl X "zip") (mm : X.mg "zip" = none) (ha : DEx X EX e da) (hb : DEx X EX e2 db)
    (hs : starEach [e, e2] X.env = (false, eval e X.env) :: starEach [e2] X.env := by rfl) (hs2 : starEach [e2] X.env = (false, eval e2 X.env) :: starEach [] X.env := by rfl) (hpl : (backTo pos (starEach [e2] X.env)).any (·.1) = false := by rfl) :
    DIx X EX (.Tuple elts kk tpos) (.Call (.Name "zip" p) [e, e2] [] pos) (dZipB da db) := by
  obtain ⟨ta, pa, qa⟩ := ha.ex
  obtain ⟨tb, pb, qb⟩ := hb.ex
  refine ⟨_, pi_zipB gl mm (pa_cons pa (pa_cons pb pa_nil hs2) hs) hs hpl, fun s H0 W0 W σ ρ H R Er Q S eo hd k => ?_⟩
  refine qa s H0 W0 W σ ρ H _ Er _ S eo hd fun v d W1 ρ1 H1 hd1 s1 e1 S1 w1 => ?_
  refine qb s H0 W0 W1 σ ρ1 H1 _ Er _ S1 eo hd1 fun u y W2 ρ2 H2 hd2 s2 e2 S2 w2 => ?_
  have w1' := w1.to e2 s2
  split at hd2
  · obtain ⟨a, rfl⟩ := w1'.lstV
    obtain ⟨b, rfl⟩ := w2.lstV
    obtain ⟨xs, h1, _⟩ := w1'.sqL
    obtain ⟨ys, h2, _⟩ := w2.sqL
    exact ⟨a, b, xs, ys, rfl, .inl ⟨h1, h2, k _ _ W2 ρ2 H2 hd2 (sub_tr s2 s1) (ext_tr e1 e2 s1) S2 (it_zipL w1' w2)⟩⟩
  · obtain ⟨a, rfl⟩ := w1'.tupV
    obtain ⟨b, rfl⟩ := w2.tupV
    obtain ⟨xs, h1, _⟩ := w1'.sqT
    obtain ⟨ys, h2, _⟩ := w2.sqT
    exact ⟨a, b, xs, ys, rfl, .inr (.inl ⟨h1, h2, k _ _ W2 ρ2 H2 hd2 (sub_tr s2 s1) (ext_tr e1 e2 s1) S2 (it_zipT w1' w2)⟩)⟩
  · obtain ⟨a, rfl⟩ := w1'.lstV
    obtain ⟨b, rfl⟩ := w2.tupV
    obtain ⟨xs, h1, _⟩ := w1'.sqL
    obtain ⟨ys, h2, _⟩ := w2.sqT
    exact ⟨a, b, xs, ys, rfl, .inr (.inr ⟨h1, h2, k _ _ W2 ρ2 H2 hd2 (sub_tr s2 s1) (ext_tr e1 e2 s1) S2 (it_zipM w1' w2)⟩)⟩
  · exact hd2.elim
end
end DD

/-! max of a tuple of ints, text + text. -/
namespace DD
open PySem PySem.Spec PyProof.Rows L2
section
variable {prog : Program} {w : World} {A : Around} {E : Value → Shared → Prop} {s : Shared}
theorem max_tupI {l : Addr} {xs : Array (Int × Tok)} {Q : Value → Shared → Prop} (hh : A.handled = none) (hT : s.heap.IsTuple l (intItems xs)) (ne : 0 < xs.size)
    (k : ∀ (v : Value) (g : Heap) (tk : Nat), (intItems xs)[argBest (fun i j => decide (numAt xs i > numAt xs j)) (xs.size - 1)]? = some v → (∀ b o, s.heap.get? b = some o → g.get? b = some o) → Q v { s with heap := g, toks := tk }) :
    wpAny (model prog w) A (call (.builtin "max") [.ref l]) Q E s := by
  have hlt : l < s.heap.objs.size := by obtain ⟨_, e, _⟩ := id hT; exact Heap.lt_size e
  refine call_max_walk (wpAny_pyIter_tuple hT ⟨_, _, _, _, _, _, _, rfl, Walks.tuple (A := A.in1) hh s.heap.objs.size l (Nat.ne_of_lt hlt) (intItems xs), ⟨⟨_, Heap.get?_push_size _ rfl, rfl, rfl⟩, hT.push _⟩, fun b hb => ?_, by simpa [intItems] using ne, CmpOf.ints_gt (numAt xs) (fun _ _ => intItems_at), fun v g tk hP hk => ?_⟩)
  · have hb2 : b = s.heap.objs.size ∨ b = l := by simpa using hb
    rw [Heap.size_push]
    rcases hb2 with rfl | rfl
    · exact Nat.lt_succ_self _
    · exact Nat.lt_succ_of_lt hlt
  · refine k v g tk (by simpa [intItems] using hP) fun b o e => hk b o (fun z => ?_) (Heap.get?_push_of_some _ e)
    have := Heap.lt_size e
    rw [List.mem_singleton.mp z] at this
    exact Nat.lt_irrefl _ this
theorem max_tup {l : Addr} {its : List Value} {ns : List Int} {Q : Value → Shared → Prop} (hh : A.handled = none) (hT : s.heap.IsTuple l its.toArray) (hi : IntsAre its ns) (ne : 0 < ns.length)
    (k : ∀ (g : Heap) (tk : Nat) (M : Int) (t : Tok), (∀ b o, s.heap.get? b = some o → g.get? b = some o) → M ∈ ns → (∀ a, a ∈ ns → a ≤ M) → Q (.int M t) { s with heap := g, toks := tk }) : wpAny (model prog w) A (call (.builtin "max") [.ref l]) Q E s := by
  obtain ⟨xs, e⟩ := hi.allInts.items
  have hn : numsOf (intItems xs).toList = ns := by rw [← e]; exact hi.numsOf
  rw [nums_intItems] at hn
  subst hn
  rw [e] at hT
  refine max_tupI hh hT (by simpa using ne) fun v g tk hv hk => ?_
  obtain ⟨t, rfl⟩ := intItems_at hv
  obtain ⟨_, h2⟩ := argBest_gt (numAt xs) (xs.size - 1)
  have hsz : 0 < xs.size := by simpa using ne
  refine k g tk _ t hk (by rw [numAt_eq]; exact PySem.getD_mem (by rw [List.length_map, Array.length_toList]; omega)) fun a ha => ?_
  obtain ⟨j, hj, rfl⟩ := mem_getD ha
  rw [List.length_map, Array.length_toList] at hj
  exact numAt_eq xs j ▸ h2 j (by omega)
end
section
variable {X : Cx} {EX : XK} {e : Expr} {da : DE} {p pos : Pos}
/-- the greatest of a list or a tuple of ints -/
def rMaxB (K : Fg) : List V → Hp → VK → Prop := fun vs H Q => ∃ (a : Addr) (ns : List Int), vs = [V.ref a] ∧ (SqL K H a (ns.map V.int) ∨ SqT K H a (ns.map V.int)) ∧ 0 < ns.length ∧ ∀ m, m ∈ ns → (∀ y, y ∈ ns → y ≤ m) → Q (.int m) H
theorem cr_maxB (hc : X.calm = true) : CallR X (.builtin "max") (rMaxB X.K) := by
  rintro pins s σ H vs us Q I r ⟨a, ns, rfl, hs | hs, hne, q⟩
  · exact cr_max hc pins s σ H _ us Q I r ⟨a, ns, rfl, hs, hne, q⟩
  · obtain ⟨its, rv, hl, _⟩ := I.tuple hs
    rw [Vals.ref1 r]
    exact max_tup (I.ok.hd hc) hl rv.ints hne fun g tk m t hk h1 h2 => ⟨.int _, H, I.kept hk, ⟨_, rfl⟩, q m h1 h2⟩
def dMaxB (a : DE) : DE := fun ρ R Er => a ρ (fun d ρ1 => ∃ ns : List Int, (d = .list (ns.map .int) ∨ d = .tuple (ns.map .int)) ∧ 0 < ns.length ∧ ∀ m, m ∈ ns → (∀ y, y ∈ ns → y ≤ m) → R (.int m) ρ1) Er
theorem de_maxB (hc : X.calm = true) (hm : X.mg "max" = none) (ha : DEx X EX e da) (hg : Gl X "max" := by rfl) (he : starEach [e] X.env = (false, eval e X.env) :: starEach [] X.env := by rfl) (hpl : (backTo pos (starEach [] X.env)).any (·.1) = false := by rfl) :
    DEx X EX (.Call (.Name "max" p) [e] [] pos) (dMaxB da) := by
  obtain ⟨t, pa, q⟩ := ha.ex
  refine ⟨_, pe_callB (cr_maxB hc) hg hm PyProof.Rows.boot_max (pa_cons pa pa_nil he) (he := he) (hpl := hpl), fun s H0 W0 W σ ρ H R Er Q S eo hd k => ?_⟩
  refine q s H0 W0 W σ ρ H _ Er _ S eo hd fun v d W1 ρ1 H1 hd1 s1 e1 S1 w1 => ?_
  obtain ⟨ns, hd2, h0, hR⟩ := hd1
  rcases hd2 with rfl | rfl
  · obtain ⟨a, rfl⟩ := w1.lstV
    obtain ⟨xs, h1, q1⟩ := w1.sqL
    rw [ints_dw q1] at h1
    exact ⟨a, ns, rfl, .inl h1, h0, fun m m1 m2 => k (.int m) _ W1 ρ1 H1 (hR m m1 m2) s1 e1 S1 (.int m)⟩
  · obtain ⟨a, rfl⟩ := w1.tupV
    obtain ⟨xs, h1, q1⟩ := w1.sqT
    rw [ints_dw q1] at h1
    exact ⟨a, ns, rfl, .inr h1, h0, fun m m1 m2 => k (.int m) _ W1 ρ1 H1 (hR m m1 m2) s1 e1 S1 (.int m)⟩
end
/-- text + text -/
def fAddS : D2
  | .str i, .str j => if i.length + j.length ≤ big then some (.str (i ++ j)) else none
  | _, _ => none
theorem r2_addS {K : Fg} : R2Ok K (fun x y H Q => ∃ i j, x = .str i ∧ y = .str j ∧ i.length + j.length ≤ sizeLine ∧ Q (.str (i ++ j)) H) fAddS := by
  intro H W x y d e z Q hx hy hz k fr
  unfold fAddS at hz
  split at hz
  · split at hz
    · rename_i hb
      cases hz
      cases hx
      cases hy
      exact ⟨_, _, rfl, rfl, big_le hb, k _ H (Same.refl H) fr (.str _)⟩
    · cases hz
  · cases hz
theorem de_addS {X : Cx} {EX : XK} {a b : Expr} {da db : DE} {pos : Pos} (ha : DEx X EX a da) (hb : DEx X EX b db) : DEx X EX (.BinOp a .Add b pos) (dOp fAddS da db) := op_ok r2_addS ha hb fun _ _ p q => pe_op op_add_str p q
end DD

/-! two names at once, the second a new own list. -/
namespace DD
open PySem L2
def sParDN (i j : Nat) (a : DE) : DS := fun D ρ Er => a ρ (fun d ρ1 => D.nx ((ρ1.set i (some (.dat d))).set j (some (.own [])))) Er
theorem ds_parDN {X : Cx} {EX : XK} {i j : Nat} {st : Stmt} {e : Expr} {da : DE} {p3 : Pos} (mk : ∀ ta, PA X [e, .List [] p3] ta → PS X st (tPar i j ta)) (ha : DEx X EX e da) (j0 : 0 < j := by decide)
    (h2 : starEach [e, .List [] p3] X.env = (false, eval e X.env) :: starEach [.List [] p3] X.env := by rfl) (h3 : starEach [.List [] p3] X.env = (false, eval (.List [] p3) X.env) :: starEach [] X.env := by rfl) : DSx X EX st (sParDN i j da) := by
  obtain ⟨t, pp, q⟩ := ha.ex
  refine ⟨_, mk _ (pa_cons pp (pa_cons (pe_lst pa_nil) pa_nil h3) h2), fun s H0 W0 W σ ρ H D Er E S eo hd k => ?_⟩
  refine q s H0 W0 W σ ρ H _ Er _ S eo hd fun v d W1 ρ1 H1 hd1 s1 e1 S1 w1 => ⟨Nat.zero_le _, fun l hl => ⟨_, _, rfl, ?_⟩⟩
  obtain ⟨S2, no⟩ := (S1.set (i := i) w1).newOwn (xs := []) hl
  exact k.nx _ _ _ _ hd1 ((Step.of s1 e1).trans (step_new hl)) (S2.setOwn (i := j) (ds := []) List.mem_cons_self (S1.fresh0 hl) upd_same .nil no j0)
end DD

/-! what the end asks of classes told by isinstance -/
namespace DD
open PySem L2
theorem cls_some {K : Fg} {C : Addr} {c : Value} {d : Option Addr} {cd : ClassData} {s} (l : K.lookup C = some ⟨c, d, .cls cd, s⟩) : (PySem.W.clsIn K C).isSome = true := by
  unfold PySem.W.clsIn
  rw [l]
  rfl
end DD

/-! dicts of one's own whose keys are tuples of ints and texts -/
namespace DD
open PySem L2 LamX
/-- a key's part -/
def keyI : PyData → Option Key
  | .int i => some (.inl i)
  | .str x => some (.inr x)
  | _ => none
def keysI : List PyData → Option (List Key)
  | [] => some []
  | d :: r => match keyI d, keysI r with
    | some k, some ks => some (k :: ks)
    | _, _ => none
/-- what the dict says of k -/
def lookT (kvs : List (List Key × PyData)) (k : List Key) : Option PyData := (kvs.find? fun kv => decide (kv.1 = k)).map (·.2)
/-- in its place, or at the end -/
def putT (kvs : List (List Key × PyData)) (k : List Key) (d : PyData) : List (List Key × PyData) :=
  if (kvs.any fun kv => decide (kv.1 = k)) = true then kvs.map (fun kv => if kv.1 = k then (kv.1, d) else kv) else kvs ++ [(k, d)]
section
variable {K : Fg} {H : Hp} {W : List Addr}
theorem keyI_dw {v : V} {d : PyData} {k : Key} (h : Dw K H W v d) (e : keyI d = some k) : v = kV k := by
  cases h <;> cases e <;> rfl
theorem keysI_dw : ∀ {vs : List V} {ds : List PyData} {ks : List Key}, DwA K H W vs ds → keysI ds = some ks → vs = ks.map kV
  | _, _, _, .nil, e => by cases e; rfl
  | _, _, _, .cons (d := d) (ds := r) a b, e => by
    cases h1 : keyI d with
    | none => simp [keysI, h1] at e
    | some k =>
      cases h2 : keysI r with
      | none => simp [keysI, h1, h2] at e
      | some ks =>
        simp only [keysI, h1, h2, Option.some.injEq] at e
        subst e
        rw [List.map_cons, keyI_dw a h1, keysI_dw b h2]
/-- the dict as the machine has it, and as data -/
def RelT (K : Fg) (H : Hp) (W : List Addr) (ks : List (List Key × V)) (kvs : List (List Key × PyData)) : Prop := ks.map (·.1) = kvs.map (·.1) ∧ DwA K H W (ks.map (·.2)) (kvs.map (·.2))
theorem RelT.nil : RelT K H W [] [] := ⟨rfl, .nil⟩
theorem RelT.cons {p : List Key × V} {q : List Key × PyData} {r : List (List Key × V)} {t : List (List Key × PyData)} : RelT K H W (p :: r) (q :: t) ↔ p.1 = q.1 ∧ Dw K H W p.2 q.2 ∧ RelT K H W r t := by
  constructor
  · rintro ⟨h1, h2⟩
    simp only [List.map_cons, List.cons.injEq] at h1 h2
    cases h2 with
    | cons a b => exact ⟨h1.1, a, h1.2, b⟩
  · rintro ⟨h1, h2, h3, h4⟩
    exact ⟨by rw [List.map_cons, List.map_cons, h1, h3], .cons h2 h4⟩
theorem RelT.len {ks : List (List Key × V)} {kvs : List (List Key × PyData)} (h : RelT K H W ks kvs) : ks.length = kvs.length := by
  have := congrArg List.length h.1
  simpa using this
theorem RelT.any (k : List Key) : ∀ {ks : List (List Key × V)} {kvs : List (List Key × PyData)}, RelT K H W ks kvs → (ks.any fun kv => decide (kv.1 = k)) = kvs.any fun kv => decide (kv.1 = k)
  | [], [], _ => rfl
  | p :: r, q :: t, h => by
    obtain ⟨h1, _, h3⟩ := RelT.cons.mp h
    rw [List.any_cons, List.any_cons, RelT.any k h3, h1]
  | [], _ :: _, h => by cases h.1
  | _ :: _, [], h => by cases h.1
theorem RelT.mapIf {k : List Key} {v : V} {d : PyData} (hv : Dw K H W v d) : ∀ {ks : List (List Key × V)} {kvs : List (List Key × PyData)}, RelT K H W ks kvs →
    RelT K H W (ks.map fun kv => if kv.1 = k then (kv.1, v) else kv) (kvs.map fun kv => if kv.1 = k then (kv.1, d) else kv)
  | [], [], _ => .nil
  | p :: r, q :: t, h => by
    obtain ⟨h1, h2, h3⟩ := RelT.cons.mp h
    rw [List.map_cons, List.map_cons]
    by_cases e : q.1 = k
    · rw [if_pos (by rw [h1, e]), if_pos e]; exact RelT.cons.mpr ⟨h1, hv, RelT.mapIf hv h3⟩
    · rw [if_neg (by rw [h1]; exact e), if_neg e]; exact RelT.cons.mpr ⟨h1, h2, RelT.mapIf hv h3⟩
  | [], _ :: _, h => by cases h.1
  | _ :: _, [], h => by cases h.1
theorem RelT.snoc {k : List Key} {v : V} {d : PyData} (hv : Dw K H W v d) : ∀ {ks : List (List Key × V)} {kvs : List (List Key × PyData)}, RelT K H W ks kvs → RelT K H W (ks ++ [(k, v)]) (kvs ++ [(k, d)])
  | [], [], _ => RelT.cons.mpr ⟨rfl, hv, .nil⟩
  | p :: r, q :: t, h => by
    obtain ⟨h1, h2, h3⟩ := RelT.cons.mp h
    exact RelT.cons.mpr ⟨h1, h2, RelT.snoc hv h3⟩
  | [], _ :: _, h => by cases h.1
  | _ :: _, [], h => by cases h.1
theorem RelT.put {k : List Key} {v : V} {d : PyData} (hv : Dw K H W v d) {ks : List (List Key × V)} {kvs : List (List Key × PyData)} (h : RelT K H W ks kvs) : RelT K H W (putK ks k v) (putT kvs k d) := by
  unfold putK putT
  rw [h.any k]
  split
  · exact RelT.mapIf hv h
  · exact RelT.snoc hv h
theorem RelT.get {k : List Key} : ∀ {ks : List (List Key × V)} {kvs : List (List Key × PyData)}, RelT K H W ks kvs →
    match lookT kvs k with | some d => ∃ v, valV ks k = some v ∧ Dw K H W v d | none => valV ks k = none
  | [], [], _ => rfl
  | p :: r, q :: t, h => by
    obtain ⟨h1, h2, h3⟩ := RelT.cons.mp h
    by_cases e : q.1 = k
    · have : lookT (q :: t) k = some q.2 := by unfold lookT; rw [List.find?_cons_of_pos (by simpa using e)]; rfl
      rw [this]
      exact ⟨p.2, valV_pos (by rw [h1, e]), h2⟩
    · have : lookT (q :: t) k = lookT t k := by unfold lookT; rw [List.find?_cons_of_neg (by simpa using e)]
      rw [this, valV_neg (by rw [h1]; exact e)]
      exact RelT.get h3
  | [], _ :: _, h => by cases h.1
  | _ :: _, [], h => by cases h.1
theorem OdAt.dT {u : HO} {kvs : List (List Key × PyData)} (h : OdAt K H W u (.dT kvs)) : ∃ ks, u = .dT ks ∧ RelT K H W ks kvs := by
  cases u <;> first | exact h.elim | exact ⟨_, rfl, h⟩
end
end DD

/-! statements and expressions about dicts of one's own -/
namespace DD
open PySem L2 LamX
section
variable {K : Fg} {H0 H : Hp} {W0 W : List Addr} {s : Sc} {σ : St} {ρ : Env'}
theorem OdAt.noTbl {u : HO} {o : OD} (h : OdAt K H W u o) : (∀ ps, u ≠ .tbl ps) ∧ (∀ φ, u ≠ .ext φ) ∧ ∀ xs, u ≠ .tup xs := by
  refine ⟨?_, ?_, ?_⟩ <;> rintro x rfl <;> cases o <;> exact h.elim
theorem tabs_updO {T : List (Addr × Str)} {a : Addr} {u v : HO} {o : OD} (t : Tabs T H) (ha : H a = some u) (hu : OdAt K H W u o) : Tabs T (upd H a v) := fun p hp => by
  obtain ⟨ps, h1, h2, h3⟩ := t p hp
  refine ⟨ps, by rw [upd_ne fun e => hu.noTbl.1 ps (by rw [e, ha] at h1; exact Option.some.inj h1)]; exact h1, h2, fun pos cv hc => ?_⟩
  obtain ⟨c, e1, e2⟩ := h3 pos cv hc
  refine ⟨c, e1, ?_⟩
  rw [upd_ne fun e => ?_]
  · exact e2
  · rw [e, ha] at e2
    unfold LamX.CodeO at e2
    exact hu.noTbl.2.1 _ (Option.some.inj e2)
/-- an object comes into being, somebody's -/
theorem SOk.newObj (S : SOk K H0 W0 s W σ ρ H) {p : Addr} {u : HO} (hp : H p = none) : SOk K H0 W0 s (p :: W) σ ρ (L2.upd H p u) := by
  have S2 := S.alloc (o := u) hp
  refine ⟨fun a ha => List.mem_cons_of_mem _ (S2.sub a ha), S2.tr0, fun a ha => ?_, fun a ha => ?_, S2.frame, S2.src, S2.tab, fun i d h => ?_, S2.uniq, S2.len⟩
  · rcases List.mem_cons.mp ha with rfl | ha
    · exact .inr (S.fresh0 hp)
    · exact S2.new a ha
  · rcases List.mem_cons.mp ha with rfl | ha
    · exact ⟨_, upd_same⟩
    · exact S2.tr a ha
  · obtain ⟨v, h1, h2⟩ := S.slot i d h
    refine ⟨v, h1, ?_⟩
    cases d with
    | dat d => exact Dw.new hp h2
    | own ds =>
      obtain ⟨a, ys, rfl, r1, r2, r3, r4⟩ := h2
      exact ⟨a, ys, rfl, List.mem_cons_of_mem _ r1, r2, by rw [upd_ne (ne_of_none r3 hp)]; exact r3, DwA.new hp r4⟩
    | src => exact h2
    | scr ns =>
      obtain ⟨a, rfl, q⟩ := h2
      exact ⟨a, rfl, q.go fun o n h => ⟨by rw [upd_ne (ne_of_none h hp)]; exact h, by simp only [List.mem_cons, not_or]; exact ⟨ne_of_none h hp, n⟩⟩⟩
    | obj ob =>
      obtain ⟨a, w, rfl, r1, r2, r3, r4⟩ := h2
      exact ⟨a, w, rfl, List.mem_cons_of_mem _ r1, r2, by rw [upd_ne (ne_of_none r3 hp)]; exact r3, OdAt.new hp r4⟩
/-- a slot takes it -/
theorem SOk.setObj {p : Addr} {u : HO} {o : OD} (S : SOk K H0 W0 s W σ ρ H) {i : Nat} (pw : p ∈ W) (hp0 : H0 p = none) (hp : H p = some u) (q : OdAt K H W u o) (i0 : 0 < i) : SOk K H0 W0 s W (σ.set i (some (.ref p))) (ρ.set i (some (.obj o))) H := by
  have own_ne : ∀ {j : Nat} {es : List PyData}, (ρ.set i (some (D.obj o)))[j]? = some (some (.own es)) → i ≠ j ∧ ρ[j]? = some (some (.own es)) := fun {j es} h => by
    by_cases z : i = j
    · subst z
      have hi : i < ρ.length := by simpa using (List.getElem?_eq_some_iff.mp h).1
      rw [List.getElem?_set_self hi] at h
      cases h
    · rw [List.getElem?_set_ne z] at h
      exact ⟨z, h⟩
  refine ⟨S.sub, S.tr0, S.new, S.tr, S.frame, S.src, S.tab, fun j e hj => ?_, fun j k v es fs h1 h2 h3 h4 => ?_, by simp [S.len.1], fun b hb es h0 => ?_⟩
  · by_cases z : i = j
    · subst z
      have hi : i < ρ.length := by simpa using (List.getElem?_eq_some_iff.mp hj).1
      rw [List.getElem?_set_self hi] at hj
      cases hj
      exact ⟨_, by rw [List.getElem?_set_self (by rw [S.len.1]; exact hi)], p, u, rfl, pw, hp0, hp, q⟩
    · rw [List.getElem?_set_ne z] at hj
      rw [List.getElem?_set_ne z]
      exact S.slot j e hj
  · obtain ⟨a1, g1⟩ := own_ne h1
    obtain ⟨a2, g2⟩ := own_ne h2
    rw [List.getElem?_set_ne a1] at h3
    rw [List.getElem?_set_ne a2] at h4
    exact S.uniq j k v es fs g1 g2 h3 h4
  · have a1 : i ≠ 0 := by omega
    rw [List.getElem?_set_ne a1] at h0 ⊢
    exact S.len.2 b hb es h0
/-- no other slot holds an object of one's own -/
def Lone (ρ : Env') (i : Nat) : Prop := ∀ (j : Nat) (o : OD), ρ[j]? = some (some (.obj o)) → j = i
/-- it changes -/
theorem SOk.changeObj (S : SOk K H0 W0 s W σ ρ H) {i : Nat} {o : OD} (hi : ρ[i]? = some (some (.obj o))) (lo : Lone ρ i) :
    ∃ a u, σ[i]? = some (some (.ref a)) ∧ a ∈ W ∧ H0 a = none ∧ H a = some u ∧ OdAt K H W u o ∧ ∀ (v : HO) (o' : OD), OdAt K H W v o' →
      SOk K H0 W0 s W σ (ρ.set i (some (.obj o'))) (L2.upd H a v) ∧ Ext W H (L2.upd H a v) := by
  obtain ⟨v0, h1, a, u, rfl, q1, q2, q3, q4⟩ := S.slot i _ hi
  refine ⟨a, u, h1, q1, q2, q3, q4, fun v o' q => ?_⟩
  have ex : Ext W H (L2.upd H a v) := Ext.one q3 q1 q4.noTbl.2.2
  have hil : i < ρ.length := (List.getElem?_eq_some_iff.mp hi).1
  have own_ne : ∀ {j : Nat} {es : List PyData}, (ρ.set i (some (D.obj o')))[j]? = some (some (.own es)) → i ≠ j ∧ ρ[j]? = some (some (.own es)) := fun {j es} h => by
    by_cases z : i = j
    · subst z
      rw [List.getElem?_set_self hil] at h
      cases h
    · rw [List.getElem?_set_ne z] at h
      exact ⟨z, h⟩
  refine ⟨⟨S.sub, S.tr0, S.new, fun b hb => ?_, fun b w h n => ?_, fun b hb => ⟨(S.src b hb).1, (S.src b hb).2.1, (S.src b hb).2.2.stay fun w h => ?_⟩, ⟨tabs_updO S.tab.1 q3 q4, S.tab.2⟩, fun j d hj => ?_, fun j k w fs gs g1 g2 g3 g4 => ?_, by simp [S.len.1], fun b hb fs h0 => ?_⟩, ex⟩
  · by_cases e : b = a
    · rw [e]; exact ⟨_, upd_same⟩
    · rw [upd_ne e]; exact S.tr b hb
  · rw [upd_ne (ne_of_none h q2)]; exact S.frame b w h n
  · obtain ⟨_, ⟨o2, h2⟩, _⟩ := S.src b hb
    rw [upd_ne (ne_of_none h2 q2)]; exact h
  · by_cases z : i = j
    · subst z
      rw [List.getElem?_set_self hil] at hj
      cases hj
      exact ⟨_, h1, a, v, rfl, q1, q2, upd_same, q.to ex fun _ z => z⟩
    · rw [List.getElem?_set_ne z] at hj
      obtain ⟨w, e1, e2⟩ := S.slot j d hj
      refine ⟨w, e1, ?_⟩
      cases d with
      | dat d => exact e2.to ex fun _ z => z
      | own fs =>
        obtain ⟨b, zs, rfl, r1, r2, r3, r4⟩ := e2
        exact ⟨b, zs, rfl, r1, r2, by rw [upd_ne fun e => q4.ne zs (by rw [e, q3] at r3; exact Option.some.inj r3)]; exact r3, r4.to ex fun _ z => z⟩
      | src => exact e2
      | scr ns =>
        obtain ⟨b, rfl, q⟩ := e2
        exact ⟨b, rfl, q.go fun o n h => ⟨ex.un n h, n⟩⟩
      | obj ob => exact absurd (lo j ob hj).symm z
  · obtain ⟨_, a1⟩ := own_ne g1
    obtain ⟨_, a2⟩ := own_ne g2
    exact S.uniq j k w _ _ a1 a2 g3 g4
  · obtain ⟨z, a1⟩ := own_ne h0
    exact S.len.2 b hb fs a1
end
section
variable {X : Cx} {EX : XK} {pos : Pos}
/-- x = {}, a dict of one's own -/
def sNewD (i : Nat) : DS := fun D ρ Er => D.nx (ρ.set i (some (.obj (.dT []))))
theorem ds_newD {i : Nat} {x : Str} {p1 p2 : Pos} (mk : ∀ te, PE X (.Dict [] [] p2) te → PS X (.Assign [.Name x p1] (.Dict [] [] p2) pos) (tAsg te (gName i))) (i0 : 0 < i := by decide) : DSx X EX (.Assign [.Name x p1] (.Dict [] [] p2) pos) (sNewD i) := by
  refine ⟨_, mk _ pe_dnewT, fun s H0 W0 W σ ρ H D Er E S eo hd k => fun p hp => ?_⟩
  have S2 : SOk X.K H0 W0 s (p :: W) σ ρ (upd H p (.dT [])) := S.newObj hp
  exact k.nx _ _ _ _ hd (step_new hp) (S2.setObj (o := .dT []) List.mem_cons_self (S.fresh0 hp) upd_same ⟨rfl, .nil⟩ i0)
/-- x[a, ..] = v -/
def sDSet (i : Nat) (key : DA) (val : DE) : DS := fun D ρ Er => val ρ (fun d ρ1 => (∃ o, ρ1[i]? = some (some (.obj o))) ∧ key ρ1 (fun ds ρ2 => ds.length ≤ 15 ∧ match keysI ds, ρ2[i]? with
  | some ks, some (some (.obj (.dT kvs))) => kvs.length < big ∧ Lone ρ2 i ∧ D.nx (ρ2.set i (some (.obj (.dT (putT kvs ks d)))))
  | _, _ => False) Er) Er
theorem ds_dset {i : Nat} {y : Str} {py ps p4 : Pos} {x1} {es : List Expr} {e : Expr} {da : DA} {de : DE} (hv : PE X (.Name y py) (tVar i)) (he : DEx X EX e de) (ha : DAx X EX es da)
    (mk : ∀ te ti, PE X e te → PE X (.Tuple es x1 p4) ti → PS X (.Assign [.Subscript (.Name y py) (.Tuple es x1 p4) ps] e pos) (sDPut (tVar i) ti te)) : DSx X EX (.Assign [.Subscript (.Name y py) (.Tuple es x1 p4) ps] e pos) (sDSet i da de) := by
  obtain ⟨te, pe, qe⟩ := he.ex
  obtain ⟨ta, pa, qa⟩ := ha.ex
  refine ⟨_, mk te _ pe (pe_tup pa), fun s H0 W0 W σ ρ H D Er E S eo hd k => ?_⟩
  refine qe s H0 W0 W σ ρ H _ Er _ S eo hd fun v d W1 ρ1 H1 hd1 s1 e1 S1 w1 => ?_
  obtain ⟨⟨o1, h1⟩, hd1⟩ := hd1
  obtain ⟨v0, hv0, a, u0, rfl, _⟩ := S1.slot i _ h1
  refine ⟨_, hv0, qa s H0 W0 W1 σ ρ1 H1 _ Er _ S1 eo hd1 fun vs ds W2 ρ2 H2 hd2 s2 e2 S2 w2 => ?_⟩
  obtain ⟨hz, hd2⟩ := hd2
  split at hd2
  · rename_i ks kvs hk hi
    obtain ⟨hl, lo, hn⟩ := hd2
    have ek := keysI_dw w2 hk
    refine ⟨by rw [w2.length, sizeLine_eq]; omega, fun p hp => ?_⟩
    have S2' : SOk X.K H0 W0 s W2 σ ρ2 (upd H2 p (.tup vs)) := S2.alloc hp
    obtain ⟨a2, u, g1, aW, a0, ah, q, ch⟩ := S2'.changeObj hi lo
    rw [hv0] at g1
    cases g1
    obtain ⟨ms, rfl, r⟩ := q.dT
    have ex2 : Ext W2 H2 (upd H2 p (.tup vs)) := Ext.same (same_upd hp)
    obtain ⟨S3, ex3⟩ := ch (.dT (putK ms ks v)) (.dT (putT kvs ks d)) (RelT.put ((w1.to e2 s2).to ex2 fun _ z => z) r)
    refine ⟨a, _, rfl, DPut.t (k := ks) ah (by rw [upd_same, ek]) (Nat.lt_of_lt_of_le (by rw [RelT.len r]; exact hl) (big_le (Nat.le_refl _))), ?_⟩
    exact k.nx W2 σ _ _ hn (((Step.of s1 e1).trans (Step.of s2 e2)).trans (Step.of (fun _ z => z) (ex2.trans ex3))) S3
  · exact hd2.elim
/-- x[a, ..] -/
def dDGetT (i : Nat) (key : DA) : DE := fun ρ R Er => (∃ o, ρ[i]? = some (some (.obj o))) ∧ key ρ (fun ds ρ1 => ds.length ≤ 15 ∧ match keysI ds, ρ1[i]? with
  | some ks, some (some (.obj (.dT kvs))) => ∃ d, lookT kvs ks = some d ∧ R d ρ1
  | _, _ => False) Er
theorem de_dgetT {i : Nat} {y : Str} {py p4 : Pos} {x1} {es : List Expr} {da : DA} (hu : X.A.units + 1 < cLine) (hv : PE X (.Name y py) (tVar i)) (ha : DAx X EX es da) (hs : NoSl (.Tuple es x1 p4) := by exact fun _ _ => rfl) :
    DEx X EX (.Subscript (.Name y py) (.Tuple es x1 p4) pos) (dDGetT i da) := by
  obtain ⟨ta, pa, qa⟩ := ha.ex
  refine ⟨_, pe_dget hu hv (pe_tup pa) hs, fun s H0 W0 W σ ρ H R Er Q S eo hd k => ?_⟩
  obtain ⟨⟨o0, h0⟩, hd⟩ := hd
  obtain ⟨v0, hv0, a, u0, rfl, _⟩ := S.slot i _ h0
  refine ⟨_, hv0, qa s H0 W0 W σ ρ H _ Er _ S eo hd fun vs ds W1 ρ1 H1 hd1 s1 e1 S1 w1 => ?_⟩
  obtain ⟨hz, hd1⟩ := hd1
  split at hd1
  · rename_i ks kvs hk hi
    obtain ⟨d, hd1, hR⟩ := hd1
    have ek := keysI_dw w1 hk
    refine ⟨by rw [w1.length, sizeLine_eq]; omega, fun p hp => ?_⟩
    obtain ⟨v1, g1, a1, u, rfl, aW, a0, ah, q⟩ := S1.slot i _ hi
    rw [hv0] at g1
    cases g1
    obtain ⟨ms, rfl, r⟩ := OdAt.dT q
    have gg := r.get (k := ks)
    rw [hd1] at gg
    obtain ⟨w, hw, dw⟩ := gg
    have ex : Ext W1 H1 (upd H1 p (.tup vs)) := Ext.same (same_upd hp)
    refine ⟨a, w, rfl, ?_, k w d W1 ρ1 _ hR s1 (e1.trans (ex.sub s1)) (S1.alloc hp) (dw.to ex fun _ z => z)⟩
    rw [← hw]
    exact DGet.t (by rw [upd_ne (ne_of_none ah hp)]; exact ah) (by rw [upd_same, ek])
  · exact hd1.elim
/-- x.get((a, ..), e) -/
def dDGetD (i : Nat) (key : DA) (f : DE) : DE := fun ρ R Er => (∃ kvs, ρ[i]? = some (some (.obj (.dT kvs)))) ∧ key ρ (fun ds ρ1 => ds.length ≤ 15 ∧ f ρ1 (fun z ρ2 => match keysI ds, ρ2[i]? with
  | some ks, some (some (.obj (.dT kvs))) => R ((lookT kvs ks).getD z) ρ2
  | _, _ => False) Er) Er
theorem de_dgetD {i : Nat} {y : Str} {py p4 p5 p6 : Pos} {x1} {es : List Expr} {f : Expr} {da : DA} {df : DE} (hu : X.A.units + 1 < cLine) (hv : PE X (.Name y py) (tVar i)) (ha : DAx X EX es da) (hf : DEx X EX f df)
    (m : M2 X (.Name y py) "get" p5 (.Tuple es x1 p4) f p6) : DEx X EX (.Call (.Attribute (.Name y py) "get" p5) [.Tuple es x1 p4, f] [] p6) (dDGetD i da df) := by
  obtain ⟨ta, pa, qa⟩ := ha.ex
  obtain ⟨tf, pf, qf⟩ := hf.ex
  refine ⟨_, pe_dget2 hu hv (pe_tup pa) pf m, fun s H0 W0 W σ ρ H R Er Q S eo hd k => ?_⟩
  obtain ⟨⟨kvs0, h0⟩, hd⟩ := hd
  obtain ⟨v0, hv0, a, u0, rfl, _, _, ah0, q0⟩ := S.slot i _ h0
  obtain ⟨ms0, rfl, _⟩ := OdAt.dT q0
  refine ⟨_, hv0, a, rfl, .inr ⟨ms0, .inl ah0⟩, ?_⟩
  refine qa s H0 W0 W σ ρ H _ Er _ S eo hd fun vs ds W1 ρ1 H1 hd1 s1 e1 S1 w1 => ?_
  obtain ⟨hz, hd1⟩ := hd1
  refine ⟨by rw [w1.length, sizeLine_eq]; omega, fun p hp => ?_⟩
  have ex1 : Ext W1 H1 (upd H1 p (.tup vs)) := Ext.same (same_upd hp)
  refine qf s H0 W0 W1 σ ρ1 _ _ Er _ (S1.alloc hp) eo hd1 fun z dz W2 ρ2 H2 hd2 s2 e2 S2 w2 => ?_
  split at hd2
  · rename_i ks kvs hk hi
    have ek := keysI_dw w1 hk
    obtain ⟨v1, g1, a1, u, rfl, aW, a0, ah, q⟩ := S2.slot i _ hi
    rw [hv0] at g1
    cases g1
    obtain ⟨ms, rfl, r⟩ := OdAt.dT q
    have hp2 : H2 p = some (.tup (ks.map kV)) := by rw [← ek]; exact e2.tp upd_same
    have gg := r.get (k := ks)
    refine ⟨_, DGet.t ah hp2, ?_⟩
    have st : Ext W H H2 := ext_tr e1 (ex1.trans e2) s1
    cases hl : lookT kvs ks with
    | some d =>
      rw [hl] at gg hd2
      obtain ⟨w, hw, dw⟩ := gg
      rw [hw]
      exact k w d W2 ρ2 H2 hd2 (sub_tr s2 s1) st S2 dw
    | none =>
      rw [hl] at gg hd2
      rw [show valV ms ks = none from gg]
      exact k z dz W2 ρ2 H2 hd2 (sub_tr s2 s1) st S2 w2
  · exact hd2.elim
end
end DD

/-! sorted(x), x a dict of one's own whose keys are pairs of ints; x[e] by a pair read from data -/
namespace DD
open PySem L2 LamX PyProof.Rows
def keyP (p : Int × Int) : List Key := [.inl p.1, .inl p.2]
def tupP (p : Int × Int) : HO := .tup [.int p.1, .int p.2]
def backA : Value → Addr
  | .ref a => a
  | _ => 0
/-- the pair that stands at a value's address -/
def pairOf (H : Hp) (v : Value) : Int × Int := match H (backA v) with
  | some (.tup [.int i, .int j]) => (i, j)
  | _ => (0, 0)
theorem pairOf_at {H : Hp} {b : Addr} {p : Int × Int} (h : H b = some (tupP p)) : pairOf H (.ref b) = p := by
  unfold pairOf
  show (match H b with | some (.tup [.int i, .int j]) => (i, j) | _ => (0, 0)) = p
  rw [h]
  rfl
/-- what collecting a dict's keys gives -/
theorem keysOf_acc {P : Program} {w : World} {es : Array DictEntry} {ks : List (List Key × Addr × Value)} {acc : Array Value} (he : es.toList = ks.map (entryOfKey (tupleKind (mixKind P w))))
    (hl : acc.size = es.size) (h : ∀ (j : Nat) (v : Value), acc[j]? = some v → ∃ en : DictEntry, es[j]? = some en ∧ v = en.key) : acc.toList = ks.map fun x => Value.ref x.2.1 := by
  have hn : es.size = ks.length := by
    have := congrArg List.length he
    simpa using this
  refine List.ext_getElem? fun j => ?_
  by_cases hj : j < acc.size
  · obtain ⟨en, e1, e2⟩ := h j acc[j] (by rw [Array.getElem?_eq_getElem hj])
    have e3 : (ks.map (entryOfKey (tupleKind (mixKind P w))))[j]? = some en := by rw [← he, Array.getElem?_toList]; exact e1
    rw [Array.getElem?_toList, Array.getElem?_eq_getElem hj, List.getElem?_map, e2]
    rw [List.getElem?_map] at e3
    cases hb : ks[j]? with
    | none => rw [hb] at e3; cases e3
    | some b =>
      rw [hb] at e3
      have e4 : entryOfKey (tupleKind (mixKind P w)) b = en := Option.some.inj e3
      rw [← e4]
      rfl
  · rw [List.getElem?_eq_none (by rw [Array.length_toList]; omega), List.getElem?_eq_none (by rw [List.length_map]; omega)]
def rSortedDT : List V → Hp → VK → Prop := fun vs H Q => ∃ (a : Addr) (kvs : List (List Key × V)) (ps : List (Int × Int)), vs = [.ref a] ∧ H a = some (.dT kvs) ∧ kvs.map (·.1) = ps.map keyP ∧
  ∀ (zs : List (Addr × (Int × Int))) (p : Addr), (∀ z ∈ zs, H z.1 = some (tupP z.2)) → (zs.map (·.2)).Perm ps → (zs.map (·.2)).Pairwise (fun a b => SrtO.lexB b a = false) → H p = none → Q (.ref p) (upd H p (.lst (zs.map fun z => V.ref z.1)))
theorem KT.tups {H : Hp} : ∀ {kvs : List (List Key × V)} {ks : List (List Key × Addr × Value)} {ps : List (Int × Int)}, KT H kvs ks → kvs.map (·.1) = ps.map keyP →
    (ks.map fun x => pairOf H (.ref x.2.1)) = ps ∧ ∀ x ∈ ks, H x.2.1 = some (tupP (pairOf H (.ref x.2.1)))
  | _, _, [], .nil, _ => ⟨rfl, fun _ h => by cases h⟩
  | _, _, p :: r, .cons (a := kv) (b := k) g t, h => by
    rw [List.map_cons, List.map_cons, List.cons.injEq] at h
    obtain ⟨i1, i2⟩ := KT.tups t h.2
    have hk : H k.2.1 = some (tupP p) := by
      rw [g.2.1, h.1]
      rfl
    have e : pairOf H (.ref k.2.1) = p := pairOf_at hk
    refine ⟨by rw [List.map_cons, e, i1], fun x hx => ?_⟩
    rcases List.mem_cons.mp hx with rfl | hx
    · rw [e]; exact hk
    · exact i2 x hx
  | _, _, _ :: _, .nil, h => by cases h
  | _, _, [], .cons _ _, h => by cases h
section
variable {X : Cx}
theorem cr_sortedDT (hcalm : X.calm = true) : CallR X (.builtin "sorted") rSortedDT := by
  intro pins s σ H vs us Q I r hq
  obtain ⟨a, kvs, ps, rfl, hd, hk, q⟩ := hq
  obtain ⟨u, rfl, rx⟩ := vals1 r
  obtain rfl : u = Value.ref a := rx
  obtain ⟨z, hs, ks, pr, o, es, ep, ho, hx, hdt, he, hn⟩ := (show ObjOk X.prog X.w H s.heap a (.dT kvs) from I.hok a _ hd)
  have hn1 : es.size = ks.length := by
    have := congrArg List.length he
    simpa using this
  have hn2 : kvs.length = ks.length := Paired.length pr
  obtain ⟨hps, htup⟩ := KT.tups pr hk
  refine Calls.call_function_entry kind_sorted plain_sorted entry_sorted (args_sorted1 _) ?_
  unfold Builtin.«sorted»
  refine wpAny_bind (m := checkCount "sorted" 1 1 _) (wpAny_pure ?_)
  refine wpAny_bind (PySem.W.kdu_collect (A := X.A.in1) (kdl_raw hs hx hdt) (I.ok.hd hcalm) ho (by omega) fun h' tk acc hkp hacc => ?_)
  have ea : acc.toList = ks.map fun x => Value.ref x.2.1 := keysOf_acc he hacc.1 hacc.2
  have hal : acc.toList.length = ks.length := by rw [ea, List.length_map]
  have I1 : Inv X pins σ H { s with heap := h', toks := tk } := I.kept hkp
  refine wpAny_bind (wpAny_newList ?_ (by omega))
  have hoL : (h'.push (seqObj "list" acc.toList.toArray 0)).get? h'.objs.size = some (seqObj "list" acc.toList.toArray 0) := Heap.get?_push_size _ rfl
  have hold : ∀ b u, h'.get? b = some u → b ≠ h'.objs.size ∧ (h'.push (seqObj "list" acc.toList.toArray 0)).get? b = some u := fun b u e => ⟨Nat.ne_of_lt (Heap.lt_size e), Heap.get?_push_of_some _ e⟩
  have hmem : ∀ v ∈ acc.toList, ∃ b, v = Value.ref b ∧ H b = some (tupP (pairOf H v)) := fun v hv => by
    rw [ea] at hv
    obtain ⟨x, hx1, rfl⟩ := List.mem_map.mp hv
    exact ⟨_, rfl, htup x hx1⟩
  refine wpAny_bind (wpAny_holding (wpAny_call_entry slot_list_sort ⟨_, hoL, rfl⟩ entry_list_sort
    (SrtO.list_sort_ord (s := { s with heap := h'.push (seqObj "list" acc.toList.toArray 0), toks := tk }) (SrtO.swo_lex (pairOf H)) hoL (by omega) (fun h2 => SrtO.pairs_sortableO (by omega) (fun v hv => ?_) fun o e => ?_) fun out g1 g2 => ⟨_, rfl, ?_⟩) (args_list_sort _)))
  · obtain ⟨b, rfl, hb⟩ := hmem v hv
    obtain ⟨_, its2, r2, ⟨ob, g, hc, n, hdat⟩⟩ := (show ObjOk X.prog X.w H h' b (tupP (pairOf H (.ref b))) from I1.hok b _ hb)
    obtain ⟨u1, u2, rfl, ri, rj⟩ := vals2 r2
    obtain ⟨t1, rfl⟩ := ri
    obtain ⟨t2, rfl⟩ := rj
    exact ⟨b, ob, t1, t2, n, rfl, (hold b ob g).2, hc, hdat⟩
  · rw [hoL] at e
    cases e
    intro c
    exact absurd (Value.type.inj c) (by decide)
  · have hout : ∀ v ∈ out, ∃ b, v = Value.ref b ∧ H b = some (tupP (pairOf H v)) := fun v hv => hmem v (g2.perm.mem_iff.mp hv)
    obtain ⟨e', he'⟩ := sortedHeap_at (vs := acc.toList) (out := out.toArray) hoL
    have hrel : ∀ l : List Value, (∀ v ∈ l, ∃ b, v = Value.ref b ∧ H b = some (tupP (pairOf H v))) → Vals ((l.map fun v => ((backA v, pairOf H v) : Addr × (Int × Int))).map fun z => V.ref z.1) l := by
      intro l
      induction l with
      | nil => intro _; exact .nil
      | cons v r ih =>
        intro h
        obtain ⟨b, rfl, _⟩ := h v List.mem_cons_self
        exact .cons rfl (ih fun y hy => h y (List.mem_cons_of_mem _ hy))
    have hlen : ((out.map fun v => ((backA v, pairOf H v) : Addr × (Int × Int))).map fun z => V.ref z.1).length ≤ sizeLine := by
      rw [List.length_map, List.length_map, g2.perm.length_eq]
      omega
    have e2 : (out.map fun v => ((backA v, pairOf H v) : Addr × (Int × Int))).map (·.2) = out.map (pairOf H) := by rw [List.map_map]; rfl
    refine wpAny_pure ⟨_, rfl, .ref h'.objs.size, upd H h'.objs.size (.lst ((out.map fun v => ((backA v, pairOf H v) : Addr × (Int × Int))).map fun z => V.ref z.1)), I1.laid (t' := tk) (fun b u e => ?_) (Nat.le_refl _)
      (show ObjOk X.prog X.w _ _ _ (.lst _) from ⟨hlen, out, e', hrel out hout, he'⟩), rfl, q _ _ (fun z hz => ?_) ?_ ?_ (I1.hok.fresh (Nat.le_refl _))⟩
    · have hb : b < h'.objs.size := Heap.lt_size e
      rw [sortedHeap_old (Nat.ne_of_lt hb) (by rw [size_push']; exact Nat.lt_succ_of_lt hb)]
      exact Heap.get?_push_of_some _ e
    · obtain ⟨v, hv, rfl⟩ := List.mem_map.mp hz
      obtain ⟨b, rfl, hb⟩ := hout v hv
      exact hb
    · rw [e2]
      refine (g2.perm.map _).trans ?_
      rw [ea, List.map_map]
      exact hps ▸ List.Perm.refl _
    · rw [e2]
      exact List.pairwise_map.mpr g1
end
end DD

namespace DD
open PySem L2 LamX PyProof.Rows
section
variable {X : Cx} {EX : XK} {pos : Pos}
/-- sorted(x) -/
def dSortedO (i : Nat) : DE := fun ρ R Er => ∃ (kvs : List (List Key × PyData)) (ps : List (Int × Int)), ρ[i]? = some (some (.obj (.dT kvs))) ∧ kvs.map (·.1) = ps.map keyP ∧
  ∀ qs : List (Int × Int), qs.Perm ps → qs.Pairwise (fun a b => SrtO.lexB b a = false) → R (.list (qs.map pairD)) ρ
theorem zs_dw {K : Fg} {H : Hp} {W : List Addr} : ∀ {zs : List (Addr × (Int × Int))}, (∀ z ∈ zs, H z.1 = some (tupP z.2)) → DwA K H W (zs.map fun z => V.ref z.1) ((zs.map (·.2)).map pairD)
  | [], _ => .nil
  | z :: r, h => .cons (.tup (h z List.mem_cons_self) (.cons (.int _) (.cons (.int _) .nil))) (zs_dw fun y hy => h y (List.mem_cons_of_mem _ hy))
theorem de_sortedO {i : Nat} {y : Str} {py p : Pos} (mk : PE X (.Call (.Name "sorted" p) [.Name y py] [] pos) (tCB rSortedDT (tCons (tVar i) tNil))) : DEx X EX (.Call (.Name "sorted" p) [.Name y py] [] pos) (dSortedO i) := by
  refine ⟨_, mk, fun s H0 W0 W σ ρ H R Er Q S eo hd k => ?_⟩
  obtain ⟨kvs, ps, hi, hk, hR⟩ := hd
  obtain ⟨v0, hv0, a, u, rfl, aW, a0, ah, q⟩ := S.slot i _ hi
  obtain ⟨ms, rfl, r⟩ := OdAt.dT q
  refine ⟨_, hv0, a, ms, ps, rfl, ah, by rw [r.1, hk], fun zs b hz pm so hb => ?_⟩
  exact k _ _ W ρ _ (hR _ pm so) (fun _ z => z) (Ext.same (same_upd hb)) (S.alloc hb) (Dw.newLst hb (S.fresh hb) (zs_dw hz))
/-- what the dict at a holds at the tuple y -/
def DGetS (K : Fg) (H : Hp) (a : Addr) (y : V) (v : V) : Prop := ∃ (kvs : List (List Key × V)) (k : List Key) (b : Addr), H a = some (.dT kvs) ∧ y = .ref b ∧ SqT K H b (k.map kV) ∧ valV kvs k = some v
def tDGetS (K : Fg) (td ty : TE) : TE := fun σ H Q => td σ H fun x H1 => ty σ H1 fun y H2 => ∃ (a : Addr) (v : V), x = .ref a ∧ DGetS K H2 a y v ∧ Q v H2
theorem pe_dgetS {o e : Expr} {td ty : TE} (hu : X.A.units + 1 < cLine) (pd : PE X o td) (py : PE X e ty) (hs : NoSl e) : PE X (.Subscript o e pos) (tDGetS X.K td ty) := by
  constructor
  intro pins s σ H Q I h
  refine subD_of PySem.F.slot_dict_getitem.lookup hs (thn (pd.run pins s σ H _ I h) fun u1 s1 c1 => ?_)
  obtain ⟨x, H1, I1, r1, g1⟩ := c1
  refine thn (py.run pins s1 σ H1 _ I1 g1) fun u2 s2 c2 => ?_
  obtain ⟨y, H2, I2, r2, a, v, rfl, ⟨kvs, k, b, hd, rfl, hb, hl⟩, hQ⟩ := c2
  cases r1
  cases r2
  obtain ⟨_, lo, xs, rel, dd⟩ := dt_of I2.hok hd
  refine ⟨dd.typeIs, ?_⟩
  obtain ⟨its, rv, ⟨ob, g, hc, n, hdat⟩, _⟩ := I2.tuple hb
  obtain ⟨w', hw, rw'⟩ := RelO.some_of (v := v) (o := (atKey xs k).map (·.2)) (by rw [← hl]; exact rel.val k)
  obtain ⟨p, hp, hp2⟩ := Option.map_eq_some_iff.mp hw
  refine wpAny_getItem_heap (tupleKind_room_in1 hu) ⟨ob, its.toArray, n, g, hc, hdat, by simpa using items_are rv⟩ dd hp ?_
  rw [hp2]
  exact ⟨v, H2, I2.tok _, rw', hQ⟩
/-- x[e], e a tuple -/
def dDGetE (i : Nat) (e : DE) : DE := fun ρ R Er => (∃ o, ρ[i]? = some (some (.obj o))) ∧ e ρ (fun d ρ1 => match ρ1[i]? with
  | some (some (.obj (.dT kvs))) => ∃ ds ks z, d = .tuple ds ∧ keysI ds = some ks ∧ lookT kvs ks = some z ∧ R z ρ1
  | _ => False) Er
theorem de_dgetE {i : Nat} {y : Str} {py : Pos} {e : Expr} {de : DE} (hu : X.A.units + 1 < cLine) (hv : PE X (.Name y py) (tVar i)) (he : DEx X EX e de) (hs : NoSl e := by exact fun _ _ => rfl) : DEx X EX (.Subscript (.Name y py) e pos) (dDGetE i de) := by
  obtain ⟨te, pe, qe⟩ := he.ex
  refine ⟨_, pe_dgetS hu hv pe hs, fun s H0 W0 W σ ρ H R Er Q S eo hd k => ?_⟩
  obtain ⟨⟨o0, h0⟩, hd⟩ := hd
  obtain ⟨v0, hv0, a, u0, rfl, _⟩ := S.slot i _ h0
  refine ⟨_, hv0, qe s H0 W0 W σ ρ H _ Er _ S eo hd fun x d W1 ρ1 H1 hd1 s1 e1 S1 w1 => ?_⟩
  split at hd1
  · rename_i kvs hi
    obtain ⟨ds, ks, z, rfl, hk, hl, hR⟩ := hd1
    obtain ⟨b, rfl⟩ := w1.tupV
    obtain ⟨xs, sq, dq⟩ := w1.sqT
    have ek := keysI_dw dq hk
    obtain ⟨v1, g1, a1, u, rfl, aW, a0, ah, q⟩ := S1.slot i _ hi
    rw [hv0] at g1
    cases g1
    obtain ⟨ms, rfl, r⟩ := OdAt.dT q
    have gg := r.get (k := ks)
    rw [hl] at gg
    obtain ⟨w, hw, dw⟩ := gg
    exact ⟨a, w, rfl, ⟨ms, ks, b, ah, rfl, by rw [← ek]; exact sq, hw⟩, k w z W1 ρ1 H1 hR s1 e1 S1 dw⟩
  · exact hd1.elim
end
theorem units1 {k : Nat} {A : Around} (r : Room k A) : A.units + 1 < cLine := by have := r.un; omega
section
variable {K : Fg} {H0 H : Hp} {W0 W : List Addr} {s : Sc} {σ : L2.St} {ρ : Env'} {p : Addr} {u : HO}
/-- a new object that was there at the entry, as it were -/
theorem SOk.liftO (S : SOk K H0 W0 s W σ ρ H) (hp : H p = none) : SOk K (L2.upd H0 p u) (p :: W0) s (p :: W) σ ρ (L2.upd H p u) := by
  have T := S.newObj (u := u) hp
  have p0 := S.fresh0 hp
  have pW := S.fresh hp
  have ne : ∀ {a : Addr}, a ∈ W → a ≠ p := fun h e => pW (by rw [← e]; exact h)
  have up0 : ∀ {a : Addr} {o : HO}, H0 a = some o → L2.upd H0 p u a = some o := fun h => by rw [upd_ne (ne_of_none h p0)]; exact h
  have z0 : ∀ {a : Addr}, a ∈ W → H0 a = none → L2.upd H0 p u a = none := fun h e => by rw [upd_ne (ne h)]; exact e
  refine ⟨fun a ha => ?_, fun a ha => ?_, fun a ha => ?_, T.tr, fun b o hb n => ?_, fun a ha => ⟨List.mem_cons_of_mem _ (T.src a ha).1, ?_, (T.src a ha).2.2⟩, ⟨T.tab.1, fun q hq => ⟨List.mem_cons_of_mem _ (T.tab.2 q hq).1, ?_⟩⟩, fun i d hd => ?_, T.uniq, T.len⟩
  · rcases List.mem_cons.mp ha with rfl | ha
    · exact List.mem_cons_self
    · exact T.sub a ha
  · rcases List.mem_cons.mp ha with rfl | ha
    · exact ⟨_, upd_same⟩
    · obtain ⟨o, h⟩ := T.tr0 a ha
      exact ⟨o, up0 h⟩
  · rcases List.mem_cons.mp ha with rfl | ha
    · exact .inl List.mem_cons_self
    · rcases S.new a ha with h | h
      · exact .inl (List.mem_cons_of_mem _ h)
      · exact .inr (z0 ha h)
  · by_cases e : b = p
    · subst e; rw [upd_same] at hb ⊢; exact hb
    · rw [upd_ne e] at hb; exact T.frame b o hb n
  · obtain ⟨o, h⟩ := (T.src a ha).2.1
    exact ⟨o, up0 h⟩
  · obtain ⟨o, h⟩ := (T.tab.2 q hq).2
    exact ⟨o, up0 h⟩
  · obtain ⟨v, h1, h2⟩ := S.slot i d hd
    obtain ⟨v', h3, h4⟩ := T.slot i d hd
    rw [h1] at h3
    cases h3
    refine ⟨v, h1, ?_⟩
    cases d with
    | dat d => exact h4
    | own ds =>
      obtain ⟨a, ys, rfl, r1, r2, _, _⟩ := h2
      obtain ⟨b, zs, e, g1, _, g3, g4⟩ := h4
      cases e
      exact ⟨a, zs, rfl, g1, z0 r1 r2, g3, g4⟩
    | src => exact h4
    | scr ns => exact h4
    | obj ob =>
      obtain ⟨a, w, rfl, r1, r2, _, _⟩ := h2
      obtain ⟨b, w2, e, g1, _, g3, g4⟩ := h4
      cases e
      exact ⟨a, w2, rfl, g1, z0 r1 r2, g3, g4⟩
theorem SOk.dropO (S : SOk K (L2.upd H0 p u) (p :: W0) s W σ ρ H) (p0 : H0 p = none) (B : ∃ W1 σ1 ρ1 H1, SOk K H0 W0 s W1 σ1 ρ1 H1 ∧ H1 p = none) : SOk K H0 W0 s W σ ρ H ∧ p ∈ W ∧ H p = some u := by
  obtain ⟨W1, σ1, ρ1, H1, T, hp1⟩ := B
  have nh : ¬ s.Has p := fun z => by
    obtain ⟨_, o, h⟩ := T.has p z
    rw [p0] at h
    cases h
  have dn : ∀ {a : Addr}, L2.upd H0 p u a = none → H0 a = none := fun {a} h => by
    by_cases e : a = p
    · subst e; exact p0
    · rw [upd_ne e] at h; exact h
  refine ⟨⟨fun a ha => S.sub a (List.mem_cons_of_mem _ ha), T.tr0, fun a ha => ?_, S.tr, fun b o h n => S.frame b o (by rw [upd_ne (ne_of_none h p0)]; exact h) n, fun a ha => ⟨(T.src a ha).1, (T.src a ha).2.1, (S.src a ha).2.2⟩, ⟨S.tab.1, T.tab.2⟩, fun i d hd => ?_, S.uniq, S.len⟩, S.sub p List.mem_cons_self, S.frame p _ upd_same nh⟩
  · rcases S.new a ha with h | h
    · rcases List.mem_cons.mp h with rfl | h
      · exact .inr p0
      · exact .inl h
    · exact .inr (dn h)
  · obtain ⟨v, h1, h2⟩ := S.slot i d hd
    refine ⟨v, h1, ?_⟩
    cases d with
    | dat d => exact h2
    | own ds =>
      obtain ⟨a, ys, rfl, r1, r2, r3, r4⟩ := h2
      exact ⟨a, ys, rfl, r1, dn r2, r3, r4⟩
    | src => exact h2
    | scr ns => exact h2
    | obj ob =>
      obtain ⟨a, w, rfl, r1, r2, r3, r4⟩ := h2
      exact ⟨a, w, rfl, r1, dn r2, r3, r4⟩
end
section
variable {X : Cx} {EX : XK}
/-- x, y = {}, e: a dict of one's own, and data -/
def sParED (i j : Nat) (a : DE) : DS := fun D ρ Er => a ρ (fun d ρ1 => D.nx ((ρ1.set i (some (.obj (.dT [])))).set j (some (.dat d)))) noEr
theorem ds_parED {i j : Nat} {st : Stmt} {e : Expr} {da : DE} {p3 : Pos} (mk : ∀ ta, PA X [.Dict [] [] p3, e] ta → PS X st (tPar i j ta)) (ha : DEx X EX e da) (i0 : 0 < i := by decide)
    (h2 : starEach [.Dict [] [] p3, e] X.env = (false, eval (.Dict [] [] p3) X.env) :: starEach [e] X.env := by rfl) (h3 : starEach [e] X.env = (false, eval e X.env) :: starEach [] X.env := by rfl) : DSx X EX st (sParED i j da) := by
  obtain ⟨t, pp, q⟩ := ha.ex
  refine ⟨_, mk _ (pa_cons pe_dnewT (pa_cons pp pa_nil h3) h2), fun s H0 W0 W σ ρ H D Er E S eo hd k => fun p hp => ?_⟩
  have S2 : SOk X.K (upd H0 p (.dT [])) (p :: W0) s (p :: W) σ ρ (upd H p (.dT [])) := S.liftO hp
  refine q s _ _ (p :: W) σ ρ _ _ noEr _ S2 erOk_no hd fun v d W1 ρ1 H1 hd1 s1 e1 S1 w1 => ⟨_, _, rfl, ?_⟩
  obtain ⟨S3, pW, hp1⟩ := S1.dropO (S.fresh0 hp) ⟨_, _, _, _, S, hp⟩
  have S4 := S3.setObj (o := .dT []) pW (S.fresh0 hp) hp1 ⟨rfl, .nil⟩ i0
  exact k.nx _ _ _ _ hd1 ((step_new hp).trans (Step.of s1 e1)) (S4.set w1)
/-- x, y = [], []: two own lists -/
def sParNN (i j : Nat) : DS := fun D ρ Er => D.nx ((ρ.set i (some (.own []))).set j (some (.own [])))
theorem ds_parNN {i j : Nat} {st : Stmt} {p3 p4 : Pos} (mk : ∀ ta, PA X [.List [] p3, .List [] p4] ta → PS X st (tPar i j ta)) (i0 : 0 < i := by decide) (j0 : 0 < j := by decide)
    (h2 : starEach [.List [] p3, .List [] p4] X.env = (false, eval (.List [] p3) X.env) :: starEach [.List [] p4] X.env := by rfl) (h3 : starEach [.List [] p4] X.env = (false, eval (.List [] p4) X.env) :: starEach [] X.env := by rfl) : DSx X EX st (sParNN i j) := by
  refine ⟨_, mk _ (pa_cons (pe_lst pa_nil) (pa_cons (pe_lst pa_nil) pa_nil h3) h2), fun s H0 W0 W σ ρ H D Er E S eo hd k => ⟨Nat.zero_le _, fun l hl => ⟨Nat.zero_le _, fun m hm => ⟨_, _, rfl, ?_⟩⟩⟩⟩
  obtain ⟨S1, no1⟩ := S.newOwn (xs := []) hl
  have S2 := S1.setOwn (i := i) (ds := []) List.mem_cons_self (S.fresh0 hl) upd_same .nil no1 i0
  obtain ⟨S3, no3⟩ := S2.newOwn (xs := []) hm
  exact k.nx _ _ _ _ hd ((step_new hl).trans (step_new hm)) (S3.setOwn (i := j) (ds := []) List.mem_cons_self (S2.fresh0 hm) upd_same .nil no3 j0)
end
end DD

/-! {(a, ..): v}: a dict of one pair, its key a tuple -/
namespace DD
open PySem L2 LamX PyProof.Rows
section
variable {K : Fg} {H0 H : Hp} {W0 W : List Addr} {s : Sc} {σ : L2.St} {ρ : Env'} {p : Addr} {u v : HO}
/-- such an object changes, and belongs to nobody from now on -/
theorem SOk.giveO {o : OD} (S : SOk K (L2.upd H0 p u) (p :: W0) s W σ ρ H) (p0 : H0 p = none) (B : ∃ W1 σ1 ρ1 H1, SOk K H0 W0 s W1 σ1 ρ1 H1 ∧ H1 p = none) (hu : OdAt K H W u o) :
    SOk K H0 W0 s (W.filter fun b => decide (b ≠ p)) σ ρ (L2.upd H p v) := by
  obtain ⟨S1, pW, hp⟩ := S.dropO p0 B
  have ex : Ext W H (L2.upd H p v) := Ext.one hp pW hu.noTbl.2.2
  have sub' : ∀ a ∈ W.filter (fun b => decide (b ≠ p)), a ∈ W := fun a h => (List.mem_filter.mp h).1
  have ne0 : ∀ {a : Addr} {w : HO}, H0 a = some w → a ≠ p := fun h => ne_of_none h p0
  have neS : ∀ {a : Addr}, L2.upd H0 p u a = none → a ≠ p := fun h e => by rw [e, upd_same] at h; cases h
  have inF : ∀ {a : Addr}, a ∈ W → a ≠ p → a ∈ W.filter fun b => decide (b ≠ p) := fun h n => List.mem_filter.mpr ⟨h, decide_eq_true n⟩
  refine ⟨fun a ha => ?_, S1.tr0, fun a ha => S1.new a (sub' a ha), fun a ha => ?_, fun b w h n => ?_, fun a ha => ⟨(S1.src a ha).1, (S1.src a ha).2.1, ?_⟩, ⟨tabs_updO S1.tab.1 hp hu, S1.tab.2⟩, fun i d hd => ?_, S1.uniq, S1.len⟩
  · obtain ⟨w, h⟩ := S1.tr0 a ha
    exact inF (S1.sub a ha) (ne0 h)
  · rw [upd_ne (by simpa using (List.mem_filter.mp ha).2)]
    exact S1.tr a (sub' a ha)
  · rw [upd_ne (ne0 h)]
    exact S1.frame b w h n
  · obtain ⟨w, h⟩ := (S1.src a ha).2.1
    refine (S1.src a ha).2.2.stay fun w2 h2 => ?_
    rw [upd_ne (ne0 h)]
    exact h2
  · obtain ⟨x, h1, h2⟩ := S.slot i d hd
    obtain ⟨x', h3, h4⟩ := S1.slot i d hd
    rw [h1] at h3
    cases h3
    refine ⟨x, h1, ?_⟩
    cases d with
    | dat d => exact Dw.to ex sub' h4
    | own ds =>
      obtain ⟨a, ys, rfl, r1, r2, r3, r4⟩ := h2
      obtain ⟨b, zs, e, _, g2, _, _⟩ := h4
      cases e
      have na := neS r2
      exact ⟨a, ys, rfl, inF r1 na, g2, by rw [upd_ne na]; exact r3, r4.to ex sub'⟩
    | src => exact h4
    | scr ns =>
      obtain ⟨a, rfl, q⟩ := h4
      exact ⟨a, rfl, q.go fun w n h => ⟨ex.un n h, fun z => n (sub' _ z)⟩⟩
    | obj ob =>
      obtain ⟨a, w, rfl, r1, r2, r3, r4⟩ := h2
      obtain ⟨b, zs, e, _, g2, _, _⟩ := h4
      cases e
      have na := neS r2
      exact ⟨a, w, rfl, inF r1 na, g2, by rw [upd_ne na]; exact r3, r4.to ex sub'⟩
end
def tDisp1T (ta : TA) (tv : TE) : TE := fun σ H Q => ∀ p, H p = none → tTup ta σ (upd H p (.dT [])) fun x H1 => tv σ H1 fun y H2 => H2 p = some (.dT []) ∧ ∃ (k : List Key) (b : Addr), x = .ref b ∧ H2 b = some (.tup (k.map kV)) ∧ Q (.ref p) (upd H2 p (.dT [(k, y)]))
section
variable {X : Cx} {EX : XK} {pos : Pos}
theorem pe_disp1T {es : List Expr} {x1} {p4 : Pos} {v : Expr} {ta : TA} {tv : TE} (hu : X.A.units + 1 < cLine) (ha : PA X es ta) (hv : PE X v tv) : PE X (.Dict [some (.Tuple es x1 p4)] [v] pos) (tDisp1T ta tv) := by
  constructor
  intro pins s σ H Q I q
  have hn : H s.heap.objs.size = none := I.hok.fresh (Nat.le_refl _)
  have I1 := I.laid (a := s.heap.objs.size) (o := .dT []) (h' := s.heap.push { cls := .type "dict", data := .dict #[] }) (t' := s.toks) (fun _ _ z => Heap.get?_push_of_some _ z) (Nat.le_refl _) (dt_empty s.heap I.big)
  have hl := pairTrees_length [some (.Tuple es x1 p4)] [v] X.env pos rfl rfl
  rw [arm_eval_Dict, zip_pairTrees [some (.Tuple es x1 p4)] [v] X.env pos rfl rfl, dictDisplay_pairs _ (by intro e; rw [e] at hl; cases hl) (by rw [hl]; show 1 < 17; decide)]
  refine wpAny_bind (wpAny_standAt (wpAny_bind (wpAny_subDictH (knd := tupleKind (mixKind X.prog X.w)) (Q := fun d s' => wpAny (model X.prog X.w) X.A (pure (Value.ref d)) _ _ s') (by show X.A.units < cLine; omega) (by rw [hl]; show 1 ≤ 15; decide) ?_)))
  refine pairTrees_cons_walk (thn ((pe_tup ha).run pins _ σ _ _ I1 (q _ hn)) fun u1 s1 c1 => ?_)
  obtain ⟨x, H1, J1, r1, g1⟩ := c1
  refine thn (hv.run pins s1 σ H1 _ J1 g1) fun u2 s2 c2 => ?_
  obtain ⟨y, H2, J2, r2, hp, k, b, rfl, hb, hQ⟩ := c2
  cases r1
  refine pairTrees_nil_walk ?_
  obtain ⟨_, lo, xs, rel, dd⟩ := dt_of J2.hok hp
  cases rel
  refine ⟨[(k, b, u2)], ⟨rfl, rfl, key_of J2.hok hb, trivial⟩, dd, fun h' tk dd' sb => wpAny_pure ⟨.ref s.heap.objs.size, _, ?_, rfl, hQ⟩⟩
  have e1 : storedAllH [] [(k, b, u2)] = [(k, b, u2)] := rfl
  rw [e1] at dd'
  obtain ⟨o, es', ep, h1, h2, h3, h4, h5, h6⟩ := dd'
  have nb : b ≠ s.heap.objs.size := fun e => by rw [e, hp] at hb; cases hb
  exact d_write J2 (by rw [hp]; exact True.intro) sb ⟨o, h1⟩ (show ObjOk X.prog X.w _ h' _ (.dT [(k, y)]) from ⟨by show 1 ≤ sizeLine; rw [sizeLine_eq]; decide, lo, [(k, b, u2)], .cons ⟨rfl, by rw [upd_ne nb]; exact hb, r2⟩ .nil, o, es', ep, h1, h2, h3, h4, h6⟩)
/-- {(a, ..): v} -/
def dDict1T (key : DA) (val : DE) : DE := fun ρ R Er => key ρ (fun ds ρ1 => ds.length ≤ 15 ∧ val ρ1 (fun z ρ2 => ∃ ks, keysI ds = some ks ∧ ds = ks.map keyD ∧ R (.dict [(.tuple ds, z)]) ρ2) noEr) noEr
theorem de_dict1T {es : List Expr} {x1} {p4 : Pos} {v : Expr} {da : DA} {dv : DE} (hu : X.A.units + 1 < cLine) (ha : DAx X EX es da) (hv : DEx X EX v dv) : DEx X EX (.Dict [some (.Tuple es x1 p4)] [v] pos) (dDict1T da dv) := by
  obtain ⟨ta, pa, qa⟩ := ha.ex
  obtain ⟨tv, pv', qv⟩ := hv.ex
  refine ⟨_, pe_disp1T hu pa pv', fun s H0 W0 W σ ρ H R Er Q S eo hd k => fun p hp => ?_⟩
  have S2 : SOk X.K (upd H0 p (.dT [])) (p :: W0) s (p :: W) σ ρ (upd H p (.dT [])) := S.liftO hp
  refine qa s _ _ (p :: W) σ ρ _ _ noEr _ S2 erOk_no hd fun vs ds W1 ρ1 H1 hd1 s1 e1 S1 w1 => ?_
  obtain ⟨hz, hd1⟩ := hd1
  refine ⟨by rw [w1.length, sizeLine_eq]; omega, fun b hb => ?_⟩
  have ex1 : Ext W1 H1 (upd H1 b (.tup vs)) := Ext.same (same_upd hb)
  refine qv s _ _ W1 σ ρ1 _ _ noEr _ (S1.alloc hb) erOk_no hd1 fun y z W2 ρ2 H2 hd2 s2 e2 S3 w2 => ?_
  obtain ⟨ks, hk, hds, hR⟩ := hd2
  have ek := keysI_dw w1 hk
  obtain ⟨S4, pW, hp2⟩ := S3.dropO (S.fresh0 hp) ⟨_, _, _, _, S, hp⟩
  have S5 : SOk X.K H0 W0 s (W2.filter fun b => decide (b ≠ p)) σ ρ2 (upd H2 p (.dT [(ks, y)])) := S3.giveO (o := .dT []) (S.fresh0 hp) ⟨_, _, _, _, S, hp⟩ ⟨rfl, .nil⟩
  have ee : Ext (p :: W) (upd H p (.dT [])) H2 := ext_tr e1 (ex1.trans e2) s1
  have sub' : ∀ a ∈ W2.filter (fun b => decide (b ≠ p)), a ∈ W2 := fun a h => (List.mem_filter.mp h).1
  refine ⟨hp2, ks, b, rfl, by rw [← ek]; exact e2.tp upd_same, ?_⟩
  refine k _ _ _ ρ2 _ hR (fun x hx => ?_) (fun c w n h => ?_) S5 (.dcT (by simp) upd_same (by simp) (by rw [hds]; rfl) (.cons (w2.to (Ext.one hp2 pW (fun _ e => by cases e)) sub') .nil))
  · rcases List.mem_cons.mp (s1 _ (s2 _ (sub' x hx))) with e | h
    · exact absurd e (by simpa using (List.mem_filter.mp hx).2)
    · exact h
  · have nc : c ≠ p := ne_of_none h hp
    rw [upd_ne nc]
    exact ee c w (n.imp (fun n z => by rcases List.mem_cons.mp z with e | z; exact nc e; exact n z) id) (by rw [upd_ne nc]; exact h)
end
end DD

/-! sorted(x): a list of data of one kind (ints, texts, tuples of such), by what the library says of its order -/
namespace DD
open PySem L2 LamX PyProof.Rows
abbrev leD : PyData → PyData → Bool := PySem.W.dataLe false id
abbrev leB : V × PyData → V × PyData → Bool := PySem.W.dataLe false Prod.snd
def rSortedD (K : Fg) (W : List Addr) : List V → Hp → VK → Prop := fun vs H Q => ∃ (a : Addr) (bs : List (V × PyData)), vs = [.ref a] ∧ SqL K H a (bs.map (·.1)) ∧ (∀ b ∈ bs, Dw K H W b.1 b.2 ∧ b.2.hasDict = false ∧ b.2.depth ≤ 30) ∧
  PySem.W.AllAlike (bs.map (·.2)) ∧ PySem.W.Sortable (bs.map (·.2)) ∧ ∀ p, H p = none → Q (.ref p) (upd H p (.lst ((bs.mergeSort leB).map (·.1))))
theorem each_vals : ∀ {out : List Value} {bs : List (V × PyData)}, PySem.W.EachIs (fun v b => RelV b.1 v) out bs → Vals (bs.map (·.1)) out
  | _, _, .nil => .nil
  | _, _, .cons a b => .cons a (each_vals b)
section
variable {X : Cx} {EX : XK} {pos p : Pos} {e : Expr} {da : DE}
theorem cr_sortedD {W : List Addr} (hu : X.A.units + 64 < cLine) : CallR X (.builtin "sorted") (rSortedD X.K W) := by
  intro pins s σ H vs us Q I r h
  obtain ⟨a, bs, rfl, hs, hb, hal, hso, q⟩ := h
  obtain ⟨its, rv, hl, hz⟩ := I.list hs
  obtain ⟨u, rfl, ru⟩ := vals1 r
  obtain rfl : u = Value.ref a := ru
  have each : ∀ {l : List (V × PyData)} {is : List Value}, (∀ b ∈ l, b ∈ bs) → Vals (l.map (·.1)) is → PySem.W.EachIs (fun v (b : V × PyData) => RelV b.1 v) is l ∧ PySem.W.EachIs (fun v (b : V × PyData) => ∃ as, Reads s.heap v b.2 as) is l := by
    intro l
    induction l with
    | nil => intro is _ hv; cases hv; exact ⟨.nil, .nil⟩
    | cons b t ih =>
      intro is hm hv
      rw [List.map_cons] at hv
      cases hv with
      | cons g1 g2 =>
        obtain ⟨i1, i2⟩ := ih (fun x hx => hm x (List.mem_cons_of_mem _ hx)) g2
        obtain ⟨d1, d2, _⟩ := hb b (hm b List.mem_cons_self)
        exact ⟨.cons g1 i1, .cons (Dw.reads I b.2 b.1 _ d2 d1 g1) i2⟩
  obtain ⟨e1, e2⟩ := each (fun _ h => h) rv
  refine PySem.W.sorted_data (enc := Prod.snd) hl.isList e1 e2 hal hso (by simpa using hz) (fun b hm => by have := (hb b hm).2.2; omega) fun out ho eo => ?_
  obtain ⟨n, hn⟩ := sortedAll_at s.heap its out.toArray
  have hv := each_vals eo
  refine ⟨.ref (s.heap.objs.size + 1), upd H (s.heap.objs.size + 1) (.lst ((bs.mergeSort leB).map (·.1))), I.laid (t' := s.toks) (fun b u e => sortedAll_old e) (Nat.le_succ _) ⟨?_, out, n, hv, hn⟩, rfl, q _ (I.hok.fresh (Nat.le_succ _))⟩
  rw [List.length_map, List.length_mergeSort]
  simpa using hz
/-- sorted(list of data) -/
def dSortedD (a : DE) : DE := fun ρ R Er => a ρ (fun d ρ1 => ∃ ds : List PyData, d = .list ds ∧ PySem.W.AllAlike ds ∧ PySem.W.Sortable ds ∧ (∀ x ∈ ds, x.hasDict = false ∧ x.depth ≤ 30) ∧ R (.list (ds.mergeSort leD)) ρ1) Er
theorem zip_snd {K : Fg} {H : Hp} {W : List Addr} : ∀ {xs : List V} {ds : List PyData}, DwA K H W xs ds → (xs.zip ds).map (·.1) = xs ∧ (xs.zip ds).map (·.2) = ds ∧ ∀ b ∈ xs.zip ds, Dw K H W b.1 b.2 ∧ b.2 ∈ ds
  | _, _, .nil => ⟨rfl, rfl, fun _ h => by cases h⟩
  | _, _, .cons a b => by
    obtain ⟨h1, h2, h3⟩ := zip_snd b
    refine ⟨by rw [List.zip_cons_cons, List.map_cons, h1], by rw [List.zip_cons_cons, List.map_cons, h2], fun x hx => ?_⟩
    rw [List.zip_cons_cons] at hx
    rcases List.mem_cons.mp hx with rfl | hx
    · exact ⟨a, List.mem_cons_self⟩
    · exact ⟨(h3 x hx).1, List.mem_cons_of_mem _ (h3 x hx).2⟩
theorem dwA_map {K : Fg} {H : Hp} {W : List Addr} : ∀ {bs : List (V × PyData)}, (∀ b ∈ bs, Dw K H W b.1 b.2) → DwA K H W (bs.map (·.1)) (bs.map (·.2))
  | [], _ => .nil
  | b :: t, h => .cons (h b List.mem_cons_self) (dwA_map fun x hx => h x (List.mem_cons_of_mem _ hx))
theorem de_sortedD (hu : X.A.units + 64 < cLine) (ha : DEx X EX e da) (mk : ∀ (r : List V → Hp → VK → Prop), CallR X (.builtin "sorted") r → ∀ te, PE X e te → PE X (.Call (.Name "sorted" p) [e] [] pos) (tCB r (tCons te tNil))) : DEx X EX (.Call (.Name "sorted" p) [e] [] pos) (dSortedD da) := by
  obtain ⟨ta, pa, qa⟩ := ha.ex
  refine ⟨_, mk (fun vs H Q => ∃ W, rSortedD X.K W vs H Q) (fun pins s σ H vs us Q I r ⟨W, h⟩ => cr_sortedD hu pins s σ H vs us Q I r h) ta pa, fun s H0 W0 W σ ρ H R Er Q S eo hd k => ?_⟩
  refine qa s H0 W0 W σ ρ H _ Er _ S eo hd fun v d W1 ρ1 H1 hd1 s1 e1 S1 w1 => ?_
  obtain ⟨ds, rfl, hal, hso, hx, hR⟩ := hd1
  obtain ⟨a, rfl⟩ := w1.lstV
  obtain ⟨xs, sq, q⟩ := w1.sqL
  obtain ⟨z1, z2, z3⟩ := zip_snd q
  refine ⟨W1, a, xs.zip ds, rfl, by rw [z1]; exact sq, fun b hb => ⟨(z3 b hb).1, hx _ (z3 b hb).2⟩, by rw [z2]; exact hal, by rw [z2]; exact hso, fun b hb => ?_⟩
  have em : ((xs.zip ds).mergeSort leB).map (·.2) = ds.mergeSort leD := by
    have h := List.map_mergeSort (r := leB) (s := leD) (f := Prod.snd) (l := xs.zip ds) (fun _ _ _ _ => rfl)
    rw [show (xs.zip ds).map Prod.snd = ds from z2] at h
    exact h
  have dw : DwA X.K H1 W1 (((xs.zip ds).mergeSort leB).map (·.1)) (ds.mergeSort leD) := by
    rw [← em]
    exact dwA_map fun b hb => (z3 b (List.mem_mergeSort.mp hb)).1
  exact k _ _ W1 ρ1 _ hR s1 (e1.trans (Ext.same (same_upd hb))) (S1.alloc hb) (Dw.newLst hb (S1.fresh hb) dw)
end
end DD

/-! x, y = {}, e by way of a tuple: names that are cells -/
namespace DD
open PySem L2 LamX
section
variable {X : Cx} {EX : XK}
theorem ds_asgED {i j : Nat} {st : Stmt} {e : Expr} {da : DE} {p3 : Pos} (mk : ∀ ta, PA X [.Dict [] [] p3, e] ta → PS X st (tAsg (tTup ta) (gTup X.K 2 (gCons (gName i) (gCons (gName j) gNil))))) (ha : DEx X EX e da) (i0 : 0 < i := by decide)
    (h2 : starEach [.Dict [] [] p3, e] X.env = (false, eval (.Dict [] [] p3) X.env) :: starEach [e] X.env := by rfl) (h3 : starEach [e] X.env = (false, eval e X.env) :: starEach [] X.env := by rfl) : DSx X EX st (sParED i j da) := by
  obtain ⟨t, pp, q⟩ := ha.ex
  refine ⟨_, mk _ (pa_cons pe_dnewT (pa_cons pp pa_nil h3) h2), fun s H0 W0 W σ ρ H D Er E S eo hd k => fun p hp => ?_⟩
  have S2 : SOk X.K (upd H0 p (.dT [])) (p :: W0) s (p :: W) σ ρ (upd H p (.dT [])) := S.liftO hp
  refine q s _ _ (p :: W) σ ρ _ _ noEr _ S2 erOk_no hd fun v d W1 ρ1 H1 hd1 s1 e1 S1 w1 => ?_
  refine ⟨by show 2 ≤ sizeLine; rw [sizeLine_eq]; omega, fun b hb => ⟨b, [.ref p, v], rfl, .inl (.inl upd_same), rfl, .ref p, [v], rfl, v, [], rfl, rfl, ?_⟩⟩
  obtain ⟨S3, pW, hp1⟩ := S1.dropO (S.fresh0 hp) ⟨_, _, _, _, S, hp⟩
  have S3b : SOk X.K H0 W0 s W1 σ ρ1 (upd H1 b (.tup [.ref p, v])) := S3.alloc hb
  have S4 := S3b.setObj (u := .dT []) (o := .dT []) pW (S.fresh0 hp) (by rw [upd_ne (ne_of_none hp1 hb)]; exact hp1) ⟨rfl, .nil⟩ i0
  have ex : Ext W1 H1 (upd H1 b (.tup [.ref p, v])) := Ext.same (same_upd hb)
  exact k.nx _ _ _ _ hd1 ((step_new hp).trans (Step.of s1 (e1.trans (ex.sub s1)))) (S4.set (w1.to ex fun _ z => z))
end
end DD

/-! (a, b) >= (c, d), pairs of ints -/
namespace DD
open PySem L2 LamX PyProof.Rows
def geP (p q : Int × Int) : Bool := if p.1 = q.1 then (if p.2 = q.2 then true else decide (p.2 ≥ q.2)) else decide (p.1 ≥ q.1)
def rGeP (K : Fg) : R2 := fun x y H Q => ∃ (a b : Addr) (p q : Int × Int), x = .ref a ∧ y = .ref b ∧ SqT K H a [.int p.1, .int p.2] ∧ SqT K H b [.int q.1, .int q.2] ∧ Q (.bl (geP p q)) H
section
variable {X : Cx} {EX : XK} {pos : Pos} {a b : Expr} {da db : DE}
theorem op_geP (hu : X.A.units < cLine) : OpR X (compareOp .GtE) (rGeP X.K) := by
  intro pins s σ H x y v u Q I rx ry h
  obtain ⟨a, b, p, q, rfl, rfl, ha, hb, hq⟩ := h
  cases rx
  cases ry
  obtain ⟨its, r1, p1, _⟩ := I.tuple ha
  obtain ⟨jts, r2, p2, _⟩ := I.tuple hb
  obtain ⟨x1, x2, rfl, g1, g2⟩ := vals2 r1
  obtain ⟨y1, y2, rfl, g3, g4⟩ := vals2 r2
  obtain ⟨t1, rfl⟩ := g1
  obtain ⟨t2, rfl⟩ := g2
  obtain ⟨t3, rfl⟩ := g3
  obtain ⟨t4, rfl⟩ := g4
  have R := Ob.RcOp.tuples_ge (A := X.A) (s := s) (e := fun j => if j = 0 then p.1 == q.1 else p.2 == q.2) (r := fun j => if j = 0 then decide (q.1 ≤ p.1) else decide (q.2 ≤ p.2)) p1 p2 hu (fun j h1 h2 => by
    match j, h1, h2 with
    | 0, _, _ => exact SeqAt.EqAt.int_int _ _ _ _
    | 1, _, _ => exact SeqAt.EqAt.int_int _ _ _ _
    | n + 2, h1, _ => exact absurd h1 (by simp)) (fun j h1 h2 _ => by
    match j, h1, h2 with
    | 0, _, _ => exact Ob.RcOp.ge_int _ _ _ _
    | 1, _, _ => exact Ob.RcOp.ge_int _ _ _ _
    | n + 2, h1, _ => exact absurd h1 (by simp))
  have e : Ob.lexAt (fun j => if j = 0 then p.1 == q.1 else p.2 == q.2) (fun j => if j = 0 then decide (q.1 ≤ p.1) else decide (q.2 ≤ p.2)) (decide ((2 : Nat) ≥ 2)) 0 2 = geP p q := by
    unfold geP
    by_cases z1 : p.1 = q.1 <;> by_cases z2 : p.2 = q.2 <;> simp [Ob.lexAt, z1, z2]
  have R2 := R X.prog X.w X.xe (EP X pins σ Q) (show EP X pins σ Q (.bool (Ob.lexAt _ _ (decide ((2 : Nat) ≥ 2)) 0 2)) s from by rw [e]; exact ⟨.bl (geP p q), H, I, rfl, hq⟩)
  exact R2
def fGeP : D2
  | .tuple [.int i, .int j], .tuple [.int k, .int l] => some (.bool (geP (i, j) (k, l)))
  | _, _ => none
theorem r2_geP {K : Fg} : R2Ok K (rGeP K) fGeP := by
  intro H W x y d e z Q hx hy hz k fr
  unfold fGeP at hz
  split at hz
  · rename_i i j m l
    cases hz
    obtain ⟨a, rfl⟩ := hx.tupV
    obtain ⟨b, rfl⟩ := hy.tupV
    obtain ⟨xs, s1, q1⟩ := hx.sqT
    obtain ⟨ys, s2, q2⟩ := hy.sqT
    have e1 := keysI_dw (ks := [.inl i, .inl j]) q1 rfl
    have e2 := keysI_dw (ks := [.inl m, .inl l]) q2 rfl
    rw [e1] at s1
    rw [e2] at s2
    exact ⟨a, b, (i, j), (m, l), rfl, rfl, s1, s2, k _ _ (Same.refl _) fr (.bl _)⟩
  · cases hz
theorem de_geP (hu : X.A.units + 64 < cLine) (ha : DEx X EX a da) (hb : DEx X EX b db) : DEx X EX (.Compare a [.GtE] [b] pos) (dOp fGeP da db) := op_ok r2_geP ha hb fun _ _ p q => pe_cmpR (op_geP (by omega)) p q (nomark _)
end
end DD

/-! A def that nobody calls: its promise asks what never is. -/
namespace DD
open PySem L2 PyProof.Rows
section
variable {P : Program} {w : World} {K : Fg} {mg : Str → Option Value} {base : Heap}
def f_never : PF := fun _ _ _ => False
theorem fun_void {x qual : Str} {st : Stmt} {f : Addr} {fd : FuncData} {N ps : List Str} {k n : Nat} (F : Fun K x qual st f fd) (S : FnScope N ps (defScope st)) (hn : ps.length = n) :
    FnG P w K mg base CX0 (k + 1) f fd ps (spD K n f_never) := by
  obtain ⟨oc, od, kV, doc, pm, an, cdv, ct, osl, rfl, lk, hcd⟩ := F.ex
  refine fn_g lk hcd S (fun vs H Q E h => by rw [h.1, hn]) fun A outer s H vs Q E hr hgd hsp => ?_
  obtain ⟨hl, W, ds, R, Er, hW, hd, hf, k1, k2⟩ := hsp
  exact hf.elim
end
/-- own lists may be forgotten -/
theorem SOk.forget {K : Fg} {H0 H : Hp} {W0 W : List Addr} {s : Sc} {σ : L2.St} {ρ : Env'} (S : SOk K H0 W0 s W σ ρ H) : SOk K H0 W0 s W σ (hide ρ) H := by
  refine ⟨S.sub, S.tr0, S.new, S.tr, S.frame, S.src, S.tab, fun i d h => S.slot i d (hide_get h).1, fun i j v ds es h => absurd rfl ((hide_get h).2.1 ds), by simp [hide, S.len.1], fun b hb es h0 => absurd rfl ((hide_get h0).2.1 es)⟩
def sHide (dt : DS) : DS := fun D ρ Er => dt D (hide ρ) Er
theorem db_hide {X : Cx} {EX : XK} {st : List Stmt} {dt : DS} (h : DBx X EX st dt) : DBx X EX st (sHide dt) := by
  obtain ⟨t, p, q⟩ := h.ex
  exact ⟨t, p, fun s H0 W0 W σ ρ H D Er E S eo hd k => q s H0 W0 W σ (hide ρ) H D Er E S.forget eo hd k⟩
end DD

namespace DD
open PySem L2
theorem len1 {α : Type} {ds : List α} (h : ds.length = 1) : ∃ a, ds = [a] := by
  match ds, h with
  | [a], _ => exact ⟨a, rfl⟩
theorem lc_map {i : Nat} {te : DE} {R : List PyData → Env' → Prop} {ρ : Env'} (f : PyData → PyData) : ∀ (ds acc : List PyData),
    (∀ d ∈ ds, ∀ K : PyData → Env' → Prop, K (f d) (ρ.set i (some (.dat d))) → te (ρ.set i (some (.dat d))) K noEr) → acc.length + ds.length ≤ big → R (acc ++ ds.map f) (ρ.set i none) →
    lcGo (gN i) dYes te [i] R ds acc (ρ.set i none)
  | [], acc, _, _, hR => by simpa only [lcGo, List.map_nil, List.append_nil] using hR
  | d :: r, acc, h, hl, hR => by
    simp only [lcGo, gN, dYes, List.set_set, wipeD]
    simp only [List.length_cons] at hl
    refine h d List.mem_cons_self _ ⟨by omega, ?_⟩
    rw [List.set_set]
    exact lc_map f r (acc ++ [f d]) (fun x hx => h x (List.mem_cons_of_mem _ hx)) (by simp only [List.length_append, List.length_cons, List.length_nil]; omega) (by simpa only [List.append_assoc, List.map_cons, List.cons_append, List.nil_append] using hR)
theorem boolsD_map (p : PyData → Bool) : ∀ xs : List PyData, boolsD (xs.map fun x => .bool (p x)) = some (xs.map p)
  | [] => rfl
  | x :: r => by simp only [List.map_cons, boolsD, boolsD_map p r, Option.map_some]
theorem fAll_map (p : PyData → Bool) (xs : List PyData) : fAll [.list (xs.map fun x => .bool (p x))] = some (.bool (xs.all p)) := by
  simp only [fAll, boolsD_map, Option.map_some, List.all_map, Function.comp_def, id]
theorem fAny_map (p : PyData → Bool) (xs : List PyData) : fAny [.list (xs.map fun x => .bool (p x))] = some (.bool (xs.any p)) := by
  simp only [fAny, boolsD_map, Option.map_some, List.any_map, Function.comp_def, id]
theorem maxI (i j : Int) : (if j > i then j else i) = max i j := by rw [Int.max_def]; split <;> split <;> omega
theorem minI (i j : Int) : (if j < i then j else i) = min i j := by rw [Int.min_def]; split <;> split <;> omega
theorem atI_map {α β : Type} {f : α → β} {xs : List α} {i : Int} {x : α} (h0 : 0 ≤ i) (h : xs[i.toNat]? = some x) : atI (xs.map f) i = some (f x) := by
  have e : i = ((i.toNat : Nat) : Int) := by omega
  rw [e]
  exact atI_nat (by rw [List.getElem?_map, h]; rfl)
theorem atI_at {α : Type} {xs : List α} {i : Int} {x : α} (h0 : 0 ≤ i) (h : xs[i.toNat]? = some x) : atI xs i = some x := by
  have e : i = ((i.toNat : Nat) : Int) := by omega
  rw [e]
  exact atI_nat h
theorem at_of {α : Type} {xs : List α} {i : Int} (h0 : 0 ≤ i) (h1 : i ≤ (xs.length : Int) - 1) : ∃ x, xs[i.toNat]? = some x := ⟨_, List.getElem?_eq_getElem (by omega)⟩
theorem lc_fm {i : Nat} {tt : DT} {te : DE} {R : List PyData → Env' → Prop} {ρ : Env'} (p : PyData → Bool) (f : PyData → PyData) : ∀ (ds acc : List PyData),
    (∀ d ∈ ds, ∀ K : Bool → Env' → Prop, K (p d) (ρ.set i (some (.dat d))) → tt (ρ.set i (some (.dat d))) K noEr) →
    (∀ d ∈ ds, ∀ K : PyData → Env' → Prop, K (f d) (ρ.set i (some (.dat d))) → te (ρ.set i (some (.dat d))) K noEr) → acc.length + ds.length ≤ big → R (acc ++ (ds.filter p).map f) (ρ.set i none) →
    lcGo (gN i) tt te [i] R ds acc (ρ.set i none)
  | [], acc, _, _, _, hR => by simpa only [lcGo, List.filter_nil, List.map_nil, List.append_nil] using hR
  | d :: r, acc, ht, h, hl, hR => by
    simp only [lcGo, gN, List.set_set, wipeD]
    simp only [List.length_cons] at hl
    refine ht d List.mem_cons_self _ ?_
    have t1 : ∀ x ∈ r, ∀ K : Bool → Env' → Prop, K (p x) (ρ.set i (some (.dat x))) → tt (ρ.set i (some (.dat x))) K noEr := fun x hx => ht x (List.mem_cons_of_mem _ hx)
    have t2 : ∀ x ∈ r, ∀ K : PyData → Env' → Prop, K (f x) (ρ.set i (some (.dat x))) → te (ρ.set i (some (.dat x))) K noEr := fun x hx => h x (List.mem_cons_of_mem _ hx)
    cases hp : p d with
    | true =>
      refine h d List.mem_cons_self _ ⟨by omega, ?_⟩
      rw [List.set_set]
      refine lc_fm p f r (acc ++ [f d]) t1 t2 (by simp only [List.length_append, List.length_cons, List.length_nil]; omega) ?_
      rw [List.filter_cons_of_pos hp] at hR
      simpa only [List.append_assoc, List.map_cons, List.cons_append, List.nil_append] using hR
    | false =>
      show lcGo (gN i) tt te [i] R r acc ((ρ.set i (some (.dat d))).set i none)
      rw [List.set_set]
      refine lc_fm p f r acc t1 t2 (by omega) ?_
      rwa [List.filter_cons_of_neg (by simp [hp])] at hR
theorem eqvAll_nil (xs : List PyData) : PyData.eqvAll xs [] = xs.isEmpty := by cases xs <;> rfl
theorem fNe_nil {xs : List PyData} (h : SeqAt.shaped (.list xs) = true) : fNe (.list xs) (.list []) = some (.bool (!xs.isEmpty)) := by
  have h2 : SeqAt.shaped (.list []) = true := by decide
  simp only [fNe, h, h2, Bool.and_true, if_true, PyData.eqv, eqvAll_nil]
theorem fEq_nil {xs : List PyData} (h : SeqAt.shaped (.list xs) = true) : fEq (.list xs) (.list []) = some (.bool xs.isEmpty) := by
  have h2 : SeqAt.shaped (.list []) = true := by decide
  simp only [fEq, h, h2, Bool.and_true, if_true, PyData.eqv, eqvAll_nil]
theorem depthAll_le {n : Nat} : ∀ {xs : List PyData}, (∀ x ∈ xs, x.depth ≤ n) → PyData.depthAll xs ≤ n
  | [], _ => by simp only [PyData.depthAll]; omega
  | x :: r, h => by
    simp only [PyData.depthAll]
    have h1 := h x List.mem_cons_self
    have h2 := depthAll_le fun y hy => h y (List.mem_cons_of_mem _ hy)
    omega
theorem canAll {xs : List PyData} (h : ∀ x ∈ xs, x.canLay0 = true) : PyData.canLayAll0 xs = true := by
  induction xs with
  | nil => simp only [PyData.canLayAll0]
  | cons x r ih => simp only [PyData.canLayAll0, Bool.and_eq_true]; exact ⟨h x List.mem_cons_self, ih fun y hy => h y (List.mem_cons_of_mem _ hy)⟩
theorem shaped_list {xs : List PyData} (h : ∀ x ∈ xs, x.canLay0 = true ∧ x.depth ≤ 62) : SeqAt.shaped (.list xs) = true := by
  unfold SeqAt.shaped
  simp only [PyData.canLay0, PyData.depth, Bool.and_eq_true, decide_eq_true_eq]
  have := depthAll_le (n := 62) fun x hx => (h x hx).2
  refine ⟨canAll fun x hx => (h x hx).1, ?_⟩
  refine decide_eq_true (?_ : PyData.depthAll xs + 1 ≤ 64)
  omega
theorem shaped_ones {α : Type} (l : List α) : SeqAt.shaped (.list (l.map fun _ => .int 1)) = true :=
  shaped_list fun x hx => by
    obtain ⟨_, _, rfl⟩ := List.mem_map.mp hx
    exact ⟨by simp only [PyData.canLay0], by simp [PyData.depth]⟩
theorem filter_empty {p : PyData → Bool} (xs : List PyData) : (xs.filter fun x => !p x).isEmpty = xs.all p := by
  induction xs with
  | nil => rfl
  | cons x r ih =>
    cases h : p x
    · rw [List.filter_cons_of_pos (by simp [h])]; simp [h]
    · rw [List.filter_cons_of_neg (by simp [h])]; simpa [h] using ih
theorem at0 (a : PyData) (r : List PyData) : atI (a :: r) 0 = some a := atI_nat (j := 0) rfl
theorem at1 (a b : PyData) (r : List PyData) : atI (a :: b :: r) 1 = some b := atI_nat (j := 1) rfl
theorem at2 (a b c : PyData) (r : List PyData) : atI (a :: b :: c :: r) 2 = some c := atI_nat (j := 2) rfl
theorem at3 (a b c d : PyData) (r : List PyData) : atI (a :: b :: c :: d :: r) 3 = some d := atI_nat (j := 3) rfl
theorem for_ind {g : DG} {body : DS} {D : DEnds} {Er : Er'} (I : List PyData → Env' → Prop) (hn : ∀ ρ, I [] ρ → D.nx ρ)
    (hs : ∀ d r ρ, I (d :: r) ρ → (∀ ρ', I r ρ' → forGo g body D Er r ρ') → forGo g body D Er (d :: r) ρ) : ∀ ds ρ, I ds ρ → forGo g body D Er ds ρ
  | [], ρ, h => hn ρ h
  | d :: r, ρ, h => hs d r ρ h fun ρ' h' => for_ind I hn hs r ρ' h'
theorem lc_ind {g : DG} {tt : DT} {te : DE} {own : List Nat} {R : List PyData → Env' → Prop} (I : List PyData → List PyData → Env' → Prop) (hn : ∀ acc ρ, I [] acc ρ → R acc ρ)
    (hs : ∀ d r acc ρ, I (d :: r) acc ρ → (∀ acc' ρ', I r acc' ρ' → lcGo g tt te own R r acc' ρ') → lcGo g tt te own R (d :: r) acc ρ) : ∀ ds acc ρ, I ds acc ρ → lcGo g tt te own R ds acc ρ
  | [], acc, ρ, h => hn acc ρ h
  | d :: r, acc, ρ, h => hs d r acc ρ h fun acc' ρ' h' => lc_ind I hn hs r acc' ρ' h'
theorem bits_le {x : Int} {k : Nat} (h : x.natAbs < 2 ^ k) : Builtin.Int.intBits x ≤ k := by
  unfold Builtin.Int.intBits
  split
  · omega
  · rename_i hx
    have hx : x ≠ 0 := by simpa using hx
    have h2 : x.natAbs ≠ 0 := by omega
    have := (Nat.log2_lt h2).mpr h
    omega
theorem bits_lt {x : Int} {k : Nat} (h : Builtin.Int.intBits x ≤ k) : x.natAbs < 2 ^ k := by
  unfold Builtin.Int.intBits at h
  split at h
  · rename_i hx
    have hx : x = 0 := by simpa using hx
    subst hx
    exact Nat.pos_of_ne_zero (by simp)
  · rename_i hx
    have hx : x ≠ 0 := by simpa using hx
    have h2 : x.natAbs ≠ 0 := by omega
    exact (Nat.log2_lt h2).mp (by omega)
theorem bits_add {x y : Int} {k : Nat} (h : Builtin.Int.intBits x ≤ k) (h48 : 48 ≤ k) (hy : y.natAbs < 2 ^ 48) : Builtin.Int.intBits (y + x) ≤ k + 1 := by
  have h1 := bits_lt h
  have h2 : 2 ^ 48 ≤ 2 ^ k := Nat.pow_le_pow_right (by omega) h48
  refine bits_le ?_
  have h3 : (y + x).natAbs ≤ y.natAbs + x.natAbs := Int.natAbs_add_le y x
  rw [Nat.pow_succ]
  omega
theorem mulOk_r (i : Int) {j : Int} (h0 : 0 ≤ j) (h1 : j < 1000000) : mulOk i j = true := by
  unfold mulOk
  have e1 : decide (-18446744073709551616 < j) = true := decide_eq_true (by omega)
  have e2 : decide (j < 18446744073709551616) = true := decide_eq_true (by omega)
  rw [e1, e2]; simp
theorem sIx_in {n d : Nat} {k : Nat} (h : k ≤ n) : HT.sIx n d (some (k : Int)) = k := by
  have : HT.sIx n d (some (k : Int)) = min k n := by
    show (if (k : Int) < 0 then ((k : Int) + (n : Int)).toNat else min (k : Int).toNat n) = min k n
    rw [if_neg (by omega), Int.toNat_natCast]
  omega
theorem cut_to {xs : List PyData} {k : Nat} (h : k ≤ xs.length) : cutD xs none (some (k : Int)) = xs.take k := by
  unfold cutD
  rw [sIx_in h]
  show (xs.drop 0).take (k - 0) = _
  simp
theorem cut_from {xs : List PyData} {k : Nat} (h : k ≤ xs.length) : cutD xs (some (k : Int)) none = xs.drop k := by
  unfold cutD
  rw [sIx_in h]
  show (xs.drop k).take (xs.length - k) = _
  exact List.take_of_length_le (by simp)
theorem cut_past {xs : List PyData} {k : Nat} (h : xs.length ≤ k) : cutD xs (some (k : Int)) none = xs.drop k := by
  have e : HT.sIx xs.length 0 (some (k : Int)) = xs.length := by
    show (if (k : Int) < 0 then ((k : Int) + (xs.length : Int)).toNat else min (k : Int).toNat xs.length) = _
    rw [if_neg (by omega), Int.toNat_natCast]; omega
  unfold cutD
  rw [e, List.drop_of_length_le (Nat.le_refl _), List.drop_of_length_le h, List.take_nil]
theorem rangeD_len (lo : Int) (n : Nat) : (rangeD lo n).length = n := by simp [rangeD]
theorem rangeD_mem {n : Nat} {d : PyData} (h : d ∈ rangeD 0 n) : ∃ i : Nat, d = .int (i : Int) ∧ i < n := by
  obtain ⟨i, hi, rfl⟩ := List.mem_map.mp h
  exact ⟨i, by rw [Int.zero_add], List.mem_range.mp hi⟩
theorem cut_mem {xs : List PyData} {lo hi : Option Int} {x : PyData} (h : x ∈ cutD xs lo hi) : x ∈ xs := List.mem_of_mem_drop (List.mem_of_mem_take h)
theorem cut_len {xs : List PyData} {lo hi : Option Int} : (cutD xs lo hi).length ≤ xs.length := by
  unfold cutD
  rw [List.length_take, List.length_drop]
  omega
theorem cut_ne {xs : List PyData} {k : Int} (h : xs ≠ []) (hk : 0 < k) : cutD xs none (some k) ≠ [] := by
  have hp := List.length_pos_iff.mpr h
  intro e
  have el : (cutD xs none (some k)).length = 0 := by rw [e]; rfl
  have e2 : HT.sIx xs.length xs.length (some k) = min k.toNat xs.length := by
    show (if k < 0 then (k + (xs.length : Int)).toNat else min k.toNat xs.length) = _
    rw [if_neg (by omega)]
  have e3 : HT.sIx xs.length 0 none = 0 := rfl
  unfold cutD at el
  rw [e2, e3, List.length_take, List.length_drop] at el
  omega
theorem rep_mem {xs : List PyData} {x : PyData} : ∀ n : Nat, x ∈ (List.replicate n xs).flatten → x ∈ xs
  | 0, h => by cases h
  | n + 1, h => by
    rw [List.replicate_succ, List.flatten_cons] at h
    rcases List.mem_append.mp h with h | h
    · exact h
    · exact rep_mem n h
theorem rep_len {xs : List PyData} : ∀ n : Nat, (List.replicate n xs).flatten.length = n * xs.length
  | 0 => by simp
  | n + 1 => by
    rw [List.replicate_succ, List.flatten_cons, List.length_append, rep_len n, Nat.succ_mul]
    omega
def okS (a : Option D) : Prop := ∀ d, a = some d → (∃ x, d = .dat x) ∨ ∃ ns, d = .scr ns
theorem okS_none : okS none := fun d h => by cases h
theorem okS_dat (x : PyData) : okS (some (.dat x)) := fun d h => by cases h; exact .inl ⟨x, rfl⟩
theorem okS_scr (ns : List Int) : okS (some (.scr ns)) := fun d h => by cases h; exact .inr ⟨ns, rfl⟩
theorem noOwn_nil : noOwn [] := fun i d h => by simp at h
theorem noOwn_cons {a : Option D} {ρ : Env'} (h : okS a) (hr : noOwn ρ) : noOwn (a :: ρ) := fun i d e => by
  cases i with
  | zero => simp only [List.getElem?_cons_zero, Option.some.injEq] at e; exact h d e
  | succ i => simp only [List.getElem?_cons_succ] at e; exact hr i d e
theorem unSrc_ok {a : Option D} {ρ : Env'} (h : okS a) : unSrc (a :: ρ) = a :: unSrc ρ := by
  cases a with
  | none => rfl
  | some d =>
    rcases h d rfl with ⟨x, rfl⟩ | ⟨ns, rfl⟩ <;> rfl
theorem unSrc_src {ρ : Env'} : unSrc (some .src :: ρ) = none :: unSrc ρ := rfl
theorem unSrc_nil : unSrc [] = [] := rfl
theorem all_of {p : PyData → Bool} {xs : List PyData} {x : PyData} (h : xs.all p = true) (hx : x ∈ xs) : p x = true := List.all_eq_true.mp h x hx
/-! ### what repr takes -/
def leafD : PyData → Bool
  | .none => true
  | .bool _ => true
  | .int i => decide (-(10 ^ 60) ≤ i) && decide (i ≤ 10 ^ 60)
  | .str x => decide (x.length ≤ 20) && (x.cps.toList.all fun c => decide (c < 128))
  | _ => false
def lv1 : PyData → Bool
  | .list xs => decide (xs.length ≤ 8) && xs.all leafD
  | .tuple xs => decide (xs.length ≤ 8) && xs.all leafD
  | d => leafD d
def lv2 : PyData → Bool
  | .list xs => decide (xs.length ≤ 40) && xs.all lv1
  | .tuple xs => decide (xs.length ≤ 40) && xs.all lv1
  | d => leafD d
def lv3 : PyData → Bool
  | .list xs => decide (xs.length ≤ 8) && xs.all lv2
  | .tuple xs => decide (xs.length ≤ 8) && xs.all lv2
  | d => leafD d
def Gd (k m : Nat) (d : PyData) : Prop := d.showable = true ∧ d.depth ≤ k ∧ sz d ≤ m ∧ d.hasDict = false
theorem Gd.mono {k m k' m' : Nat} {d : PyData} (h : Gd k m d) (h1 : k ≤ k') (h2 : m ≤ m') : Gd k' m' d := ⟨h.1, Nat.le_trans h.2.1 h1, Nat.le_trans h.2.2.1 h2, h.2.2.2⟩
theorem gd_all {k m : Nat} : ∀ {xs : List PyData}, (∀ x ∈ xs, Gd k m x) → PyData.showableAll xs = true ∧ PyData.depthAll xs ≤ k ∧ szA xs ≤ xs.length * (m + 2) ∧ PyData.hasDictAll xs = false
  | [], _ => ⟨by simp only [PyData.showableAll], by simp only [PyData.depthAll]; omega, by simp only [szA]; omega, by simp only [PyData.hasDictAll]⟩
  | x :: r, h => by
    obtain ⟨a1, a2, a3, a4⟩ := h x List.mem_cons_self
    obtain ⟨b1, b2, b3, b4⟩ := gd_all fun y hy => h y (List.mem_cons_of_mem _ hy)
    refine ⟨by simp only [PyData.showableAll, a1, b1, Bool.and_self], by simp only [PyData.depthAll]; omega, ?_, by simp only [PyData.hasDictAll, a4, b4, Bool.or_self]⟩
    simp only [szA, List.length_cons, Nat.succ_mul]
    omega
theorem gd_list {k m n : Nat} {xs : List PyData} (h : ∀ x ∈ xs, Gd k m x) (hl : xs.length ≤ n) : Gd (k + 1) (n * (m + 2) + 10) (.list xs) := by
  obtain ⟨a1, a2, a3, a4⟩ := gd_all h
  have := Nat.mul_le_mul_right (m + 2) hl
  exact ⟨by simpa only [PyData.showable] using a1, by simp only [PyData.depth]; omega, by simp only [sz]; omega, by simpa only [PyData.hasDict] using a4⟩
theorem gd_tuple {k m n : Nat} {xs : List PyData} (h : ∀ x ∈ xs, Gd k m x) (hl : xs.length ≤ n) : Gd (k + 1) (n * (m + 2) + 10) (.tuple xs) := by
  obtain ⟨a1, a2, a3, a4⟩ := gd_all h
  have := Nat.mul_le_mul_right (m + 2) hl
  exact ⟨by simpa only [PyData.showable] using a1, by simp only [PyData.depth]; omega, by simp only [sz]; omega, by simpa only [PyData.hasDict] using a4⟩
theorem gd_rOk {d : PyData} (h : Gd 60 16777216 d) : rOk d = true := by
  obtain ⟨a1, a2, a3, a4⟩ := h
  simp only [rOk, a1, a4, decide_eq_true a2, decide_eq_true a3, Bool.and_self, Bool.not_false]
theorem gd_leaf {d : PyData} (h : leafD d = true) : Gd 0 2000 d := by
  cases d with
  | none => exact ⟨rfl, by decide, by decide, rfl⟩
  | bool b => exact ⟨rfl, by simp only [PyData.depth]; omega, by simp only [sz]; omega, rfl⟩
  | int i =>
    simp only [leafD, Bool.and_eq_true, decide_eq_true_eq] at h
    refine ⟨?_, by simp only [PyData.depth]; omega, by simp only [sz]; omega, rfl⟩
    simp only [PyData.showable, decide_eq_true_eq]
    by_cases z : i.natAbs = 0
    · rw [z]; decide
    · refine Nat.lt_trans ((Nat.log2_lt z (k := 200)).mpr ?_) (by decide)
      have e : (10 : Int) ^ 60 < 2 ^ 200 := by decide +kernel
      have e2 : ((2 ^ 200 : Nat) : Int) = 2 ^ 200 := by norm_cast
      generalize (2 ^ 200 : Nat) = k at e2 ⊢
      rw [← e2] at e
      omega
  | str x =>
    simp only [leafD, Bool.and_eq_true, decide_eq_true_eq] at h
    refine ⟨by simp only [PyData.showable], by simp only [PyData.depth]; omega, ?_, rfl⟩
    have e : (x.cps.toList.all fun c => decide (c < 4294967296)) = true := by
      rw [List.all_eq_true] at h ⊢
      intro c hc
      have := of_decide_eq_true (h.2 c hc)
      exact decide_eq_true (by omega)
    simp only [sz, e, if_true]
    omega
  | _ => cases h
theorem gd_lv1 {d : PyData} (h : lv1 d = true) : Gd 1 16026 d := by
  have k : ∀ {d : PyData}, leafD d = true → Gd 1 16026 d := fun h => (gd_leaf h).mono (by omega) (by omega)
  cases d with
  | list xs =>
    simp only [lv1, Bool.and_eq_true, decide_eq_true_eq, List.all_eq_true] at h
    exact gd_list (k := 0) (m := 2000) (n := 8) (fun x hx => gd_leaf (h.2 x hx)) h.1
  | tuple xs =>
    simp only [lv1, Bool.and_eq_true, decide_eq_true_eq, List.all_eq_true] at h
    exact gd_tuple (k := 0) (m := 2000) (n := 8) (fun x hx => gd_leaf (h.2 x hx)) h.1
  | none => exact k h
  | bool b => exact k h
  | int i => exact k h
  | str x => exact k h
  | dict kvs => cases h
theorem gd_lv2 {d : PyData} (h : lv2 d = true) : Gd 2 641130 d := by
  have k : ∀ {d : PyData}, leafD d = true → Gd 2 641130 d := fun h => (gd_leaf h).mono (by omega) (by omega)
  cases d with
  | list xs =>
    simp only [lv2, Bool.and_eq_true, decide_eq_true_eq, List.all_eq_true] at h
    exact gd_list (k := 1) (m := 16026) (n := 40) (fun x hx => gd_lv1 (h.2 x hx)) h.1
  | tuple xs =>
    simp only [lv2, Bool.and_eq_true, decide_eq_true_eq, List.all_eq_true] at h
    exact gd_tuple (k := 1) (m := 16026) (n := 40) (fun x hx => gd_lv1 (h.2 x hx)) h.1
  | none => exact k h
  | bool b => exact k h
  | int i => exact k h
  | str x => exact k h
  | dict kvs => cases h
theorem gd_lv3 {d : PyData} (h : lv3 d = true) : Gd 3 5129066 d := by
  have k : ∀ {d : PyData}, leafD d = true → Gd 3 5129066 d := fun h => (gd_leaf h).mono (by omega) (by omega)
  cases d with
  | list xs =>
    simp only [lv3, Bool.and_eq_true, decide_eq_true_eq, List.all_eq_true] at h
    exact gd_list (k := 2) (m := 641130) (n := 8) (fun x hx => gd_lv2 (h.2 x hx)) h.1
  | tuple xs =>
    simp only [lv3, Bool.and_eq_true, decide_eq_true_eq, List.all_eq_true] at h
    exact gd_tuple (k := 2) (m := 641130) (n := 8) (fun x hx => gd_lv2 (h.2 x hx)) h.1
  | none => exact k h
  | bool b => exact k h
  | int i => exact k h
  | str x => exact k h
  | dict kvs => cases h
theorem fRepr_lv3 {d : PyData} (h : lv3 d = true ∨ d = .dict []) : fRepr [d] = some (.str d.shown) := by
  rcases h with h | rfl
  · simp only [fRepr, gd_rOk ((gd_lv3 h).mono (by omega) (by omega)), if_true]
  · rfl
theorem lv_leaf {d : PyData} (h : leafD d = true) : lv1 d = true ∧ lv2 d = true ∧ lv3 d = true := by
  cases d <;> first | exact ⟨h, h, h⟩ | cases h
theorem lv12 {d : PyData} (h : lv1 d = true) : lv2 d = true := by
  cases d with
  | list xs =>
    simp only [lv1, lv2, Bool.and_eq_true, decide_eq_true_eq, List.all_eq_true] at h ⊢
    exact ⟨by omega, fun x hx => (lv_leaf (h.2 x hx)).1⟩
  | tuple xs =>
    simp only [lv1, lv2, Bool.and_eq_true, decide_eq_true_eq, List.all_eq_true] at h ⊢
    exact ⟨by omega, fun x hx => (lv_leaf (h.2 x hx)).1⟩
  | _ => exact h
theorem leaf_int {i : Int} (h0 : -1000 ≤ i) (h1 : i ≤ 1000) : leafD (.int i) = true := by
  have e : (10 : Int) ^ 60 = 1000000000000000000000000000000000000000000000000000000000000 := by decide +kernel
  simp only [leafD, Bool.and_eq_true, decide_eq_true_eq, e]
  omega
theorem lv1_mk {xs : List PyData} (h : ∀ x ∈ xs, leafD x = true) (hl : xs.length ≤ 8) : lv1 (.tuple xs) = true := by
  simp only [lv1, Bool.and_eq_true, decide_eq_true_eq, List.all_eq_true]
  exact ⟨hl, h⟩
theorem lv2_mk {xs : List PyData} (h : ∀ x ∈ xs, lv1 x = true) (hl : xs.length ≤ 40) : lv2 (.tuple xs) = true := by
  simp only [lv2, Bool.and_eq_true, decide_eq_true_eq, List.all_eq_true]
  exact ⟨hl, h⟩
theorem lv2_mkL {xs : List PyData} (h : ∀ x ∈ xs, lv1 x = true) (hl : xs.length ≤ 40) : lv2 (.list xs) = true := by
  simp only [lv2, Bool.and_eq_true, decide_eq_true_eq, List.all_eq_true]
  exact ⟨hl, h⟩
theorem lv3_3 {a b c : PyData} (ha : lv2 a = true) (hb : lv2 b = true) (hc : lv2 c = true) : lv3 (.tuple [a, b, c]) = true := by
  simp only [lv3, List.all_cons, List.all_nil, ha, hb, hc, Bool.and_true]
  rfl
theorem lv2_int {i : Int} (h0 : -1000 ≤ i) (h1 : i ≤ 1000) : lv2 (.int i) = true := leaf_int h0 h1
end DD

namespace DD
open PySem L2

/-! ### comprehensions and loops over typed lists -/
theorem lc_all {α : Type} {g : DG} {tt : DT} {te : DE} {own : List Nat} {R : List PyData → Env' → Prop} {ρ0 : Env'} (enc : α → PyData) (p : α → Bool) (f : α → PyData) : ∀ (xs : List α) (acc : List PyData),
    (∀ x ∈ xs, ∀ (Kt : PyData → Env' → Prop) (Kf : Env' → Prop), (p x = true → Kt (f x) ρ0) → (p x = false → Kf ρ0) →
      g (enc x) ρ0 fun ρ1 => tt ρ1 (fun k ρ2 => match k with | true => te ρ2 (fun v ρ3 => Kt v (wipeD ρ3 own)) noEr | false => Kf (wipeD ρ2 own)) noEr) →
    acc.length + xs.length ≤ big → R (acc ++ (xs.filter p).map f) ρ0 → lcGo g tt te own R (xs.map enc) acc ρ0
  | [], acc, _, _, hR => by simpa only [lcGo, List.map_nil, List.filter_nil, List.append_nil] using hR
  | x :: r, acc, h, hl, hR => by
    simp only [List.length_cons] at hl
    have hr : ∀ y ∈ r, _ := fun y hy => h y (List.mem_cons_of_mem _ hy)
    rw [List.map_cons]
    unfold lcGo
    refine h x List.mem_cons_self (fun v ρ => acc.length < big ∧ lcGo g tt te own R (r.map enc) (acc ++ [v]) ρ) (fun ρ => lcGo g tt te own R (r.map enc) acc ρ) (fun hp => ⟨by omega, ?_⟩) fun hp => ?_
    · refine lc_all enc p f r _ hr (by simp only [List.length_append, List.length_cons, List.length_nil]; omega) ?_
      rw [List.filter_cons_of_pos hp] at hR
      simpa only [List.append_assoc, List.map_cons, List.cons_append, List.nil_append] using hR
    · refine lc_all enc p f r _ hr (by omega) ?_
      rwa [List.filter_cons_of_neg (by simp [hp])] at hR
/-- no condition -/
theorem lc_each {α : Type} {g : DG} {te : DE} {own : List Nat} {R : List PyData → Env' → Prop} {ρ0 : Env'} (enc : α → PyData) (f : α → PyData) (xs : List α)
    (h : ∀ x ∈ xs, ∀ (Kt : PyData → Env' → Prop), Kt (f x) ρ0 → g (enc x) ρ0 fun ρ1 => te ρ1 (fun v ρ3 => Kt v (wipeD ρ3 own)) noEr) (hl : xs.length ≤ big) (hR : R (xs.map f) ρ0) : lcGo g dYes te own R (xs.map enc) [] ρ0 := by
  refine lc_all enc (fun _ => true) f xs [] (fun x hx Kt Kf h1 _ => h x hx Kt (h1 rfl)) (by simpa using hl) ?_
  rw [List.filter_eq_self.mpr (fun _ _ => rfl), List.nil_append]
  exact hR
/-- a comprehension whose elements are drawn: any list of what may come, of that length -/
theorem lc_any {α β : Type} {g : DG} {te : DE} {own : List Nat} {R : List PyData → Env' → Prop} {ρ0 : Env'} (enc : α → PyData) (out : β → PyData) (ok : α → β → Prop) : ∀ (xs : List α) (bs : List β) (acc : List PyData), acc = bs.map out →
    (∀ x ∈ xs, ∀ (Kt : PyData → Env' → Prop), (∀ b, ok x b → Kt (out b) ρ0) → g (enc x) ρ0 fun ρ1 => te ρ1 (fun v ρ3 => Kt v (wipeD ρ3 own)) noEr) → bs.length + xs.length ≤ big →
    (∀ cs : List β, cs.length = xs.length → (∀ (i : Nat) (x : α) (c : β), xs[i]? = some x → cs[i]? = some c → ok x c) → R ((bs ++ cs).map out) ρ0) → lcGo g dYes te own R (xs.map enc) acc ρ0
  | [], bs, acc, e, _, _, hR => by
    have := hR [] rfl (fun i x c h => by simp at h)
    subst e
    simpa only [lcGo, List.map_nil, List.append_nil] using this
  | x :: r, bs, acc, e, h, hl, hR => by
    subst e
    simp only [List.length_cons] at hl
    rw [List.map_cons]
    unfold lcGo
    simp only [dYes]
    refine h x List.mem_cons_self (fun v ρ => (bs.map out).length < big ∧ lcGo g dYes te own R (r.map enc) (bs.map out ++ [v]) ρ) fun b hb => ⟨by rw [List.length_map]; omega, ?_⟩
    refine lc_any enc out ok r (bs ++ [b]) _ (by simp) (fun y hy => h y (List.mem_cons_of_mem _ hy)) (by simp only [List.length_append, List.length_cons, List.length_nil]; omega) fun cs hc hk => ?_
    rw [List.append_assoc]
    refine hR (b :: cs) (by simp [hc]) fun i y c hy hcc => ?_
    cases i with
    | zero => simp only [List.getElem?_cons_zero, Option.some.injEq] at hy hcc; subst hy; subst hcc; exact hb
    | succ i => simp only [List.getElem?_cons_succ] at hy hcc; exact hk i y c hy hcc
/-- a loop over a typed list: P tells of what is done, what is left, and the state -/
theorem for_all {α S : Type} {g : DG} {body : DS} {D : DEnds} {Er : Er'} (enc : α → PyData) (E : S → Env') (P : List α → List α → S → Prop) (hn : ∀ pre s, P pre [] s → D.nx (E s))
    (hs : ∀ pre x r s, P pre (x :: r) s → ∀ KK : Env' → Prop, (∀ s', P (pre ++ [x]) r s' → KK (E s')) → g (enc x) (E s) fun ρ1 => body { nx := KK, ct := KK, bk := D.nx, rt := D.rt } ρ1 Er) : ∀ (xs pre : List α) (s : S), P pre xs s → forGo g body D Er (xs.map enc) (E s)
  | [], pre, s, h => hn pre s h
  | x :: r, pre, s, h => by
    rw [List.map_cons]
    unfold forGo
    exact hs pre x r s h _ fun s' h' => for_all enc E P hn hs r (pre ++ [x]) s' h'
/-! ### ranges, enumerations -/
def natD (k : Nat) : PyData := .int (k : Int)
def natsL (ks : List Nat) : PyData := .list (ks.map natD)
def natsT (ks : List Nat) : PyData := .tuple (ks.map natD)
theorem rangeD_nat (n : Nat) : rangeD 0 n = (List.range n).map natD := by
  unfold rangeD natD
  apply List.map_congr_left
  intro i _
  rw [Int.zero_add]
theorem enumD_map {α : Type} (enc : α → PyData) (xs : List α) : enumD (xs.map enc) = (xs.zipIdx).map fun p => PyData.tuple [natD p.2, enc p.1] := by
  unfold enumD
  apply List.ext_getElem?
  intro i
  by_cases h : i < xs.length
  · simp [h, natD, List.getElem?_range]
  · have h' : xs.length ≤ i := by omega
    simp [h', List.getElem?_eq_none]
theorem atI_neg {α : Type} {xs : List α} (h : xs ≠ []) : atI xs (-1) = xs[xs.length - 1]? := by
  obtain ⟨ys, v, rfl⟩ : ∃ ys v, xs = ys ++ [v] := ⟨xs.dropLast, xs.getLast h, (List.dropLast_concat_getLast h).symm⟩
  rw [atI_last]
  simp
theorem intsOf {ns : List Nat} : ns.map natD = (ns.map fun (k : Nat) => (k : Int)).map .int := by rw [List.map_map]; rfl
/-- where a number stands: what `index` asks -/
theorem idx_first {ks : List Nat} {i : Nat} (h : i ∈ ks) : (ks.map fun (k : Nat) => (k : Int))[ks.idxOf i]? = some (i : Int) ∧ ∀ m, m < ks.idxOf i → (ks.map fun (k : Nat) => (k : Int))[m]? ≠ some (i : Int) := by
  have hl := List.idxOf_lt_length_of_mem h
  refine ⟨by rw [List.getElem?_map, List.getElem?_eq_getElem hl, List.getElem_idxOf hl]; rfl, fun m hm e => ?_⟩
  rw [List.getElem?_map] at e
  have hm' : m < ks.length := by omega
  rw [List.getElem?_eq_getElem hm'] at e
  simp only [Option.map_some, Option.some.injEq] at e
  have e' : ks[m] = i := by omega
  have := List.not_of_lt_findIdx (p := (· == i)) (xs := ks) hm
  simp [e'] at this
/-! ### repr, dicts too -/
def Gs (k m : Nat) (d : PyData) : Prop := d.showable = true ∧ d.depth ≤ k ∧ sz d ≤ m
theorem Gs.mono {k m k' m' : Nat} {d : PyData} (h : Gs k m d) (h1 : k ≤ k') (h2 : m ≤ m') : Gs k' m' d := ⟨h.1, Nat.le_trans h.2.1 h1, Nat.le_trans h.2.2 h2⟩
theorem gs_all {k m : Nat} : ∀ {xs : List PyData}, (∀ x ∈ xs, Gs k m x) → PyData.showableAll xs = true ∧ PyData.depthAll xs ≤ k ∧ szA xs ≤ xs.length * (m + 2)
  | [], _ => ⟨by simp only [PyData.showableAll], by simp only [PyData.depthAll]; omega, by simp only [szA]; omega⟩
  | x :: r, h => by
    obtain ⟨a1, a2, a3⟩ := h x List.mem_cons_self
    obtain ⟨b1, b2, b3⟩ := gs_all fun y hy => h y (List.mem_cons_of_mem _ hy)
    refine ⟨by simp only [PyData.showableAll, a1, b1, Bool.and_self], by simp only [PyData.depthAll]; omega, ?_⟩
    simp only [szA, List.length_cons, Nat.succ_mul]
    omega
theorem gs_list {k m n : Nat} {xs : List PyData} (h : ∀ x ∈ xs, Gs k m x) (hl : xs.length ≤ n) : Gs (k + 1) (n * (m + 2) + 10) (.list xs) := by
  obtain ⟨a1, a2, a3⟩ := gs_all h
  have := Nat.mul_le_mul_right (m + 2) hl
  exact ⟨by simpa only [PyData.showable] using a1, by simp only [PyData.depth]; omega, by simp only [sz]; omega⟩
theorem gs_tuple {k m n : Nat} {xs : List PyData} (h : ∀ x ∈ xs, Gs k m x) (hl : xs.length ≤ n) : Gs (k + 1) (n * (m + 2) + 10) (.tuple xs) := by
  obtain ⟨a1, a2, a3⟩ := gs_all h
  have := Nat.mul_le_mul_right (m + 2) hl
  exact ⟨by simpa only [PyData.showable] using a1, by simp only [PyData.depth]; omega, by simp only [sz]; omega⟩
theorem gs_rOk {d : PyData} (h : Gs 60 16777216 d) : rOkD d = true := by
  obtain ⟨a1, a2, a3⟩ := h
  simp only [rOkD, a1, decide_eq_true a2, decide_eq_true a3, Bool.and_self]
theorem Gd.gs {k m : Nat} {d : PyData} (h : Gd k m d) : Gs k m d := ⟨h.1, h.2.1, h.2.2.1⟩
theorem gs_leaf {d : PyData} (h : leafD d = true) : Gs 0 2000 d := (gd_leaf h).gs
theorem fReprD_gs {d : PyData} (h : Gs 60 16777216 d) : fReprD [d] = some (.str d.shown) := by
  simp only [fReprD, gs_rOk h, if_true]
theorem leBig (n : Nat) : (n ≤ big) = (n ≤ 100000) := propext ⟨fun h => h, fun h => h⟩
theorem ltBig (n : Nat) : (n < big) = (n < 100000) := propext ⟨fun h => h, fun h => h⟩
end DD

namespace DD
open PySem L2

theorem fIx_t0 (a : PyData) (r : List PyData) : fIx (.tuple (a :: r)) (.int 0) = some a := at0 a r
theorem fIx_t1 (a b : PyData) (r : List PyData) : fIx (.tuple (a :: b :: r)) (.int 1) = some b := at1 a b r
theorem fIx_t2 (a b c : PyData) (r : List PyData) : fIx (.tuple (a :: b :: c :: r)) (.int 2) = some c := at2 a b c r
theorem fIx_t3 (a b c d : PyData) (r : List PyData) : fIx (.tuple (a :: b :: c :: d :: r)) (.int 3) = some d := at3 a b c d r
theorem fIx_l0 (a : PyData) (r : List PyData) : fIx (.list (a :: r)) (.int 0) = some a := at0 a r
theorem fIx_l1 (a b : PyData) (r : List PyData) : fIx (.list (a :: b :: r)) (.int 1) = some b := at1 a b r
/-- an index within -/
theorem fIx_at {α : Type} {enc : α → PyData} {xs : List α} {k : Int} {x : α} (h0 : 0 ≤ k) (h : xs[k.toNat]? = some x) : fIx (.tuple (xs.map enc)) (.int k) = some (enc x) := by
  simp only [fIx]
  exact atI_map h0 h
theorem fIx_atL {α : Type} {enc : α → PyData} {xs : List α} {k : Int} {x : α} (h0 : 0 ≤ k) (h : xs[k.toNat]? = some x) : fIx (.list (xs.map enc)) (.int k) = some (enc x) := by
  simp only [fIx]
  exact atI_map h0 h
theorem fIx_in {xs : List PyData} {k : Int} (h0 : 0 ≤ k) (h : k < xs.length) : ∃ x, x ∈ xs ∧ fIx (.list xs) (.int k) = some x ∧ fIx (.tuple xs) (.int k) = some x := by
  have e : xs[k.toNat]? = some (xs[k.toNat]'(by omega)) := List.getElem?_eq_getElem (by omega)
  exact ⟨_, List.getElem_mem _, atI_at h0 e, atI_at h0 e⟩
/-- a comprehension whose state changes -/
theorem lc_st {α S : Type} {g : DG} {te : DE} {own : List Nat} {R : List PyData → Env' → Prop} (enc : α → PyData) (E : S → Env') (P : List α → List α → S → List PyData → Prop) (hn : ∀ pre s acc, P pre [] s acc → R acc (E s))
    (hs : ∀ pre x r s acc, P pre (x :: r) s acc → acc.length < big ∧ ∀ KK : PyData → Env' → Prop, (∀ v s', P (pre ++ [x]) r s' (acc ++ [v]) → KK v (E s')) → g (enc x) (E s) fun ρ1 => te ρ1 (fun v ρ3 => KK v (wipeD ρ3 own)) noEr) :
    ∀ (xs pre : List α) (s : S) (acc : List PyData), P pre xs s acc → lcGo g dYes te own R (xs.map enc) acc (E s)
  | [], pre, s, acc, h => hn pre s acc h
  | x :: r, pre, s, acc, h => by
    rw [List.map_cons]
    unfold lcGo
    simp only [dYes]
    obtain ⟨h1, h2⟩ := hs pre x r s acc h
    exact h2 (fun v ρ => acc.length < big ∧ lcGo g dYes te own R (r.map enc) (acc ++ [v]) ρ) fun v s' h' => ⟨h1, lc_st enc E P hn hs r (pre ++ [x]) s' (acc ++ [v]) h'⟩
end DD

namespace DD
open PySem L2

/-! arithmetic of ints, as equations -/
theorem iEq (i j : Int) : fEq (.int i) (.int j) = some (.bool (decide (i = j))) := rfl
theorem iNe (i j : Int) : fNe (.int i) (.int j) = some (.bool (!decide (i = j))) := rfl
theorem iAdd (i j : Int) : fAdd (.int i) (.int j) = some (.int (i + j)) := rfl
theorem iSub (i j : Int) : fSub (.int i) (.int j) = some (.int (i - j)) := rfl
theorem iLt (i j : Int) : fLt (.int i) (.int j) = some (.bool (decide (i < j))) := rfl
theorem iLe (i j : Int) : fLe (.int i) (.int j) = some (.bool (decide (i ≤ j))) := rfl
theorem iGt (i j : Int) : fGt (.int i) (.int j) = some (.bool (decide (i > j))) := rfl
theorem iGe (i j : Int) : fGe (.int i) (.int j) = some (.bool (decide (i ≥ j))) := rfl
theorem iDiv {i j : Int} (h : 0 < j) (h1 : j < 1073741824) : fDiv (.int i) (.int j) = some (.int (i / j)) := by simp only [fDiv, dI2c, decide_eq_true h, decide_eq_true h1, Bool.and_self, if_true]
theorem iMod {i j : Int} (h : 0 < j) : fMod (.int i) (.int j) = some (.int (i % j)) := by simp only [fMod, dI2c, decide_eq_true h, if_true]
theorem iMul {i j : Int} (h : 0 ≤ j) (h1 : j < 1000000) : fMul (.int i) (.int j) = some (.int (i * j)) := by
  unfold fMul
  simp only [mulOk_r i h h1, if_true]
end DD

/-! the math of heaps turned over: piles (a, b, often) along the places 0 .. l, l even -/
namespace DD
abbrev Pile := Int × Int × Int
def tb (a : Int) : Int := if a = 0 then 0 else if a % 2 = 1 then a + 1 else a - 1
def te (l b : Int) : Int := if b = l then l else if b % 2 = 1 then b - 1 else b + 1
def isLone (x : Pile) : Bool := decide (x.1 = x.2.1) && decide (x.1 % 2 = 1)
def turnP (l : Int) (x : Pile) : Pile := (tb x.1, te l x.2.1, x.2.2)
def PileOk (l : Int) (x : Pile) : Prop := 0 ≤ x.1 ∧ x.1 ≤ x.2.1 ∧ x.2.1 ≤ l ∧ 1 ≤ x.2.2
theorem tb_tb {a : Int} (h : 0 ≤ a) : tb (tb a) = a := by
  unfold tb
  split
  · split <;> omega
  · split <;> (split <;> (try split) <;> omega)
theorem te_te {l b : Int} (h : 0 ≤ b) (hb : b ≤ l) (he : l % 2 = 0) : te l (te l b) = b := by
  unfold te
  split
  · split <;> omega
  · split <;> (split <;> (try split) <;> omega)
theorem lone_no {x : Pile} : isLone x = false ↔ x.1 = x.2.1 → x.1 % 2 ≠ 1 := by
  unfold isLone
  by_cases h : x.1 = x.2.1 <;> simp [h]
theorem turn_ok {l : Int} {x : Pile} (he : l % 2 = 0) (h : PileOk l x) (n : isLone x = false) : PileOk l (turnP l x) ∧ isLone (turnP l x) = false := by
  obtain ⟨h1, h2, h3, h4⟩ := h
  have n := lone_no.mp n
  unfold PileOk
  refine ⟨⟨?_, ?_, ?_, h4⟩, lone_no.mpr ?_⟩ <;> simp only [turnP, tb, te] <;> (split <;> (try split) <;> (try split) <;> (try split) <;> omega)
theorem turn_turn {l : Int} {x : Pile} (he : l % 2 = 0) (h : PileOk l x) : turnP l (turnP l x) = x := by
  obtain ⟨h1, h2, h3, h4⟩ := h
  unfold turnP
  simp only [tb_tb h1, te_te (show 0 ≤ x.2.1 by omega) h3 he]
/-- a pile's key -/
def keyOf (x : Pile) : Int × Int := (x.1, x.2.1)
theorem turn_key {l : Int} {x y : Pile} (he : l % 2 = 0) (hx : PileOk l x) (hy : PileOk l y) (h : keyOf (turnP l x) = keyOf (turnP l y)) : keyOf x = keyOf y := by
  have e1 : tb x.1 = tb y.1 := congrArg (Prod.fst : Int × Int → Int) h
  have e2 : te l x.2.1 = te l y.2.1 := congrArg (Prod.snd : Int × Int → Int) h
  obtain ⟨a1, a2, a3, _⟩ := hx
  obtain ⟨b1, b2, b3, _⟩ := hy
  have f1 : x.1 = y.1 := by rw [← tb_tb a1, e1, tb_tb b1]
  have f2 : x.2.1 = y.2.1 := by rw [← te_te (show 0 ≤ x.2.1 by omega) a3 he, e2, te_te (by omega) b3 he]
  unfold keyOf
  rw [f1, f2]
/-- a heap: its keys rise -/
def ltK (x y : Pile) : Prop := x.1 < y.1 ∨ (x.1 = y.1 ∧ x.2.1 < y.2.1)
def Heap68 (l : Int) (h : List Pile) : Prop := (∀ x ∈ h, PileOk l x) ∧ h.Pairwise ltK
/-- two lists that rise and are rearrangements of each other are one -/
theorem rise_uniq : ∀ {h g : List Pile}, h.Pairwise ltK → g.Pairwise ltK → h.Perm g → h = g
  | [], g, _, _, p => (List.Perm.eq_nil p.symm).symm
  | x :: h, [], _, _, p => absurd p.length_eq (by simp)
  | x :: h, y :: g, a, b, p => by
    have a' := List.pairwise_cons.mp a
    have b' := List.pairwise_cons.mp b
    have e : x = y := by
      rcases List.mem_cons.mp (p.mem_iff.mp (List.mem_cons_self (a := x) (l := h))) with e | m
      · exact e
      · rcases List.mem_cons.mp (p.mem_iff.mpr (List.mem_cons_self (a := y) (l := g))) with e | m2
        · exact e.symm
        · have c1 := b'.1 x m
          have c2 := a'.1 y m2
          unfold ltK at c1 c2
          omega
    subst e
    rw [rise_uniq a'.2 b'.2 p.cons_inv]
/-- what is turned over: those that are not lone turned, the other heap's lone ones as they are -/
def turnedP (l : Int) (g r : List Pile) : List Pile := (g.filter fun x => !isLone x).map (turnP l) ++ r.filter isLone
theorem turned_ok {l : Int} {g r : List Pile} (he : l % 2 = 0) (hg : ∀ x ∈ g, PileOk l x) (hr : ∀ x ∈ r, PileOk l x) : ∀ x ∈ turnedP l g r, PileOk l x := fun x hx => by
  rcases List.mem_append.mp hx with h | h
  · obtain ⟨y, hy, rfl⟩ := List.mem_map.mp h
    obtain ⟨h1, h2⟩ := List.mem_filter.mp hy
    exact (turn_ok he (hg y h1) (by simpa using h2)).1
  · exact hr x (List.mem_filter.mp h).1
theorem rise_nodup {h : List Pile} (a : h.Pairwise ltK) : (h.map keyOf).Nodup := by
  unfold List.Nodup
  rw [List.pairwise_map]
  refine a.imp fun {x y} q e => ?_
  have e1 : x.1 = y.1 := congrArg (Prod.fst : Int × Int → Int) e
  have e2 : x.2.1 = y.2.1 := congrArg (Prod.snd : Int × Int → Int) e
  unfold ltK at q
  omega
theorem turned_nodup {l : Int} {g r : List Pile} (he : l % 2 = 0) (hg : Heap68 l g) (hr : Heap68 l r) : ((turnedP l g r).map keyOf).Nodup := by
  unfold turnedP
  rw [List.map_append, List.nodup_append]
  refine ⟨?_, ?_, ?_⟩
  · have a : (g.filter fun x => !isLone x).Pairwise ltK := hg.2.filter _
    unfold List.Nodup
    rw [List.map_map, List.pairwise_map]
    refine a.imp_of_mem fun {x y} hx hy q e => ?_
    have ex := turn_key he (hg.1 x (List.mem_filter.mp hx).1) (hg.1 y (List.mem_filter.mp hy).1) e
    have e1 : x.1 = y.1 := congrArg (Prod.fst : Int × Int → Int) ex
    have e2 : x.2.1 = y.2.1 := congrArg (Prod.snd : Int × Int → Int) ex
    unfold ltK at q
    omega
  · exact rise_nodup (hr.2.filter _)
  · intro k hk k' hk' e
    obtain ⟨x, hx, rfl⟩ := List.mem_map.mp hk
    obtain ⟨y, hy, rfl⟩ := List.mem_map.mp hx
    obtain ⟨h1, h2⟩ := List.mem_filter.mp hy
    have n := (turn_ok he (hg.1 y h1) (by simpa using h2)).2
    obtain ⟨z, hz, rfl⟩ := List.mem_map.mp hk'
    have lz := (List.mem_filter.mp hz).2
    have e1 : (turnP l y).1 = z.1 := congrArg (Prod.fst : Int × Int → Int) e
    have e2 : (turnP l y).2.1 = z.2.1 := congrArg (Prod.snd : Int × Int → Int) e
    have n2 := lone_no.mp n
    unfold isLone at lz
    simp only [Bool.and_eq_true, decide_eq_true_eq] at lz
    exact n2 (by rw [e1, e2]; exact lz.1) (by rw [e1]; exact lz.2)
theorem not_lone {l : Int} {g r : List Pile} (he : l % 2 = 0) (hg : ∀ x ∈ g, PileOk l x) : (turnedP l g r).filter (fun x => !isLone x) = (g.filter fun x => !isLone x).map (turnP l) := by
  unfold turnedP
  have h1 : ((g.filter fun x => !isLone x).map (turnP l)).filter (fun x => !isLone x) = (g.filter fun x => !isLone x).map (turnP l) := List.filter_eq_self.mpr fun x hx => by
    obtain ⟨y, hy, rfl⟩ := List.mem_map.mp hx
    obtain ⟨h1, h2⟩ := List.mem_filter.mp hy
    simp [(turn_ok he (hg y h1) (by simpa using h2)).2]
  have h2 : (r.filter isLone).filter (fun x => !isLone x) = [] := List.filter_eq_nil_iff.mpr fun x hx => by
    have := (List.mem_filter.mp hx).2
    simp [this]
  rw [List.filter_append, h1, h2, List.append_nil]
theorem are_lone {l : Int} {g r : List Pile} (he : l % 2 = 0) (hg : ∀ x ∈ g, PileOk l x) : (turnedP l g r).filter isLone = r.filter isLone := by
  unfold turnedP
  rw [List.filter_append, List.filter_eq_nil_iff.mpr, List.nil_append, List.filter_filter]
  · congr 1
    funext x
    simp
  · intro x hx
    obtain ⟨y, hy, rfl⟩ := List.mem_map.mp hx
    obtain ⟨h1, h2⟩ := List.mem_filter.mp hy
    simp [(turn_ok he (hg y h1) (by simpa using h2)).2]
/-- turned over twice, it is the heap that it was -/
theorem turned_back {l : Int} {g r g' r' : List Pile} (he : l % 2 = 0) (hg : ∀ x ∈ g, PileOk l x) (hr : ∀ x ∈ r, PileOk l x) (pg : g'.Perm (turnedP l g r)) (pr : r'.Perm (turnedP l r g)) : (turnedP l g' r').Perm g := by
  have a : ((g'.filter fun x => !isLone x).map (turnP l)).Perm (g.filter fun x => !isLone x) := by
    refine ((pg.filter _).map _).trans ?_
    rw [not_lone he hg, List.map_map]
    refine List.Perm.of_eq ?_
    refine (List.map_congr_left fun x hx => ?_).trans (List.map_id _)
    exact turn_turn he (hg x (List.mem_filter.mp hx).1)
  have b : (r'.filter isLone).Perm (g.filter isLone) := by
    refine (pr.filter _).trans ?_
    rw [are_lone he hr]
  refine (a.append b).trans ?_
  exact (List.perm_append_comm).trans (List.filter_append_perm isLone g)
def oftens (h : List Pile) : Int := (h.map fun x => x.2.2).sum
theorem oftens_filter {p : Pile → Bool} : ∀ {h : List Pile}, (∀ x ∈ h, 1 ≤ x.2.2) → oftens (h.filter p) ≤ oftens h ∧ 0 ≤ oftens h
  | [], _ => ⟨Int.le_refl _, Int.le_refl _⟩
  | x :: h, a => by
    obtain ⟨i1, i2⟩ := oftens_filter (p := p) (h := h) fun y hy => a y (List.mem_cons_of_mem _ hy)
    have := a x List.mem_cons_self
    have e : oftens (x :: h) = x.2.2 + oftens h := by simp [oftens]
    by_cases z : p x = true
    · rw [List.filter_cons_of_pos z]
      have e2 : oftens (x :: h.filter p) = x.2.2 + oftens (h.filter p) := by simp [oftens]
      omega
    · rw [List.filter_cons_of_neg z]
      omega
theorem oftens_turned {l : Int} {g r : List Pile} (hg : ∀ x ∈ g, 1 ≤ x.2.2) (hr : ∀ x ∈ r, 1 ≤ x.2.2) : oftens (turnedP l g r) ≤ oftens g + oftens r := by
  have e : oftens (turnedP l g r) = oftens (g.filter fun x => !isLone x) + oftens (r.filter isLone) := by
    unfold oftens turnedP
    rw [List.map_append, List.sum_append, List.map_map]
    rfl
  have a := (oftens_filter (p := fun x => !isLone x) hg).1
  have b := (oftens_filter (p := isLone) hr).1
  omega
end DD

/-! what piled tells: the math of counting piles by their keys -/
namespace DD
open PySem L2
abbrev CM := List ((Int × Int) × Int)
def getM (m : CM) (k : Int × Int) : Option Int := (m.find? fun e => decide (e.1 = k)).map (·.2)
def setM (m : CM) (k : Int × Int) (v : Int) : CM := if (m.any fun e => decide (e.1 = k)) = true then m.map (fun e => if e.1 = k then (e.1, v) else e) else m ++ [(k, v)]
def addM (m : CM) (x : Pile) : CM := setM m (keyOf x) ((getM m (keyOf x)).getD 0 + x.2.2)
def encM (m : CM) : List (List Key × PyData) := m.map fun e => (keyP e.1, .int e.2)
theorem keyP_inj {p q : Int × Int} : keyP p = keyP q ↔ p = q := by
  constructor
  · intro h
    simp only [keyP, List.cons.injEq, Sum.inl.injEq, and_true] at h
    exact Prod.ext h.1 h.2
  · rintro rfl; rfl
theorem look_enc (m : CM) (k : Int × Int) : lookT (encM m) (keyP k) = (getM m k).map .int := by
  unfold lookT getM encM
  rw [List.find?_map]
  simp only [Function.comp_def, keyP_inj, Option.map_map]
theorem put_enc (m : CM) (k : Int × Int) (v : Int) : putT (encM m) (keyP k) (.int v) = encM (setM m k v) := by
  unfold putT setM encM
  simp only [List.any_map, Function.comp_def, keyP_inj]
  split
  · simp only [List.map_map]
    refine List.map_congr_left fun e _ => ?_
    simp only [Function.comp_def, keyP_inj]
    split <;> rfl
  · simp only [List.map_append, List.map_cons, List.map_nil]
theorem get_set (m : CM) (k k' : Int × Int) (v : Int) : getM (setM m k v) k' = if k' = k then some v else getM m k' := by
  unfold setM getM
  split
  · rename_i h
    induction m with
    | nil => cases h
    | cons e r ih =>
      simp only [List.map_cons, List.find?_cons]
      by_cases he : e.1 = k
      · by_cases hk : k' = k
        · subst hk; simp [he]
        · have : ¬ k = k' := fun z => hk z.symm
          simp only [he, if_true, decide_eq_false this, if_neg hk]
          have hr : ∀ r : CM, ((r.map fun e => if e.1 = k then (e.1, v) else e).find? fun e => decide (e.1 = k')).map (·.2) = (r.find? fun e => decide (e.1 = k')).map (·.2) := fun r => by
            induction r with
            | nil => rfl
            | cons a t iht =>
              simp only [List.map_cons, List.find?_cons]
              by_cases ha : a.1 = k
              · simp only [ha, if_true, decide_eq_false this]; exact iht
              · simp only [if_neg ha]
                by_cases hb : a.1 = k'
                · simp [hb]
                · simp only [decide_eq_false hb]; exact iht
          exact hr r
      · have h' : (r.any fun e => decide (e.1 = k)) = true := by simpa [he] using h
        simp only [if_neg he]
        by_cases hb : e.1 = k'
        · have : ¬ k' = k := fun z => he (hb.trans z)
          simp [hb, this]
        · simp only [decide_eq_false hb]; exact ih h'
  · rename_i h
    have h : ∀ e ∈ m, e.1 ≠ k := fun e he z => h (List.any_eq_true.mpr ⟨e, he, decide_eq_true z⟩)
    rw [List.find?_append]
    by_cases hk : k' = k
    · subst hk
      have : m.find? (fun e => decide (e.1 = k')) = none := List.find?_eq_none.mpr fun e he => by simpa using h e he
      simp [this]
    · have : ¬ k = k' := fun z => hk z.symm
      simp [this, hk]
theorem keys_set (m : CM) (k : Int × Int) (v : Int) : (setM m k v).map (·.1) = if k ∈ m.map (·.1) then m.map (·.1) else m.map (·.1) ++ [k] := by
  unfold setM
  have e : (m.any fun e => decide (e.1 = k)) = true ↔ k ∈ m.map (·.1) := by
    simp only [List.any_eq_true, decide_eq_true_eq, List.mem_map]
  by_cases h : k ∈ m.map (·.1)
  · rw [if_pos (e.mpr h), if_pos h, List.map_map]
    refine List.map_congr_left fun e _ => ?_
    simp only [Function.comp_def]; split <;> rfl
  · rw [if_neg (fun z => h (e.mp z)), if_neg h, List.map_append]; rfl
theorem len_set (m : CM) (k : Int × Int) (v : Int) : (setM m k v).length ≤ m.length + 1 := by
  unfold setM
  split
  · rw [List.length_map]; omega
  · rw [List.length_append]; simp
/-- what piles of a key are together -/
def sumK (h : List Pile) (k : Int × Int) : Int := ((h.filter fun x => decide (keyOf x = k)).map (·.2.2)).sum
structure Counts (h : List Pile) (m : CM) : Prop where
  nd : (m.map (·.1)).Nodup
  get : ∀ k, getM m k = if k ∈ h.map keyOf then some (sumK h k) else none
  len : m.length ≤ h.length
theorem sumK_snoc (h : List Pile) (x : Pile) (k : Int × Int) : sumK (h ++ [x]) k = sumK h k + if keyOf x = k then x.2.2 else 0 := by
  unfold sumK
  rw [List.filter_append, List.map_append, List.sum_append]
  by_cases e : keyOf x = k <;> simp [e]
theorem sumK_none {h : List Pile} {k : Int × Int} (n : k ∉ h.map keyOf) : sumK h k = 0 := by
  unfold sumK
  have : (h.filter fun x => decide (keyOf x = k)) = [] := List.filter_eq_nil_iff.mpr fun x hx => by
    simp only [decide_eq_true_eq]
    exact fun e => n (List.mem_map.mpr ⟨x, hx, e⟩)
  rw [this]; rfl
theorem Counts.nil : Counts [] [] := ⟨List.nodup_nil, fun k => by simp [getM], Nat.le_refl _⟩
theorem getM_mem {m : CM} {k : Int × Int} : (∃ v, getM m k = some v) ↔ k ∈ m.map (·.1) := by
  unfold getM
  constructor
  · rintro ⟨v, h⟩
    obtain ⟨e, he, _⟩ := Option.map_eq_some_iff.mp h
    exact List.mem_map.mpr ⟨e, List.mem_of_find?_eq_some he, by simpa using List.find?_some he⟩
  · intro h
    obtain ⟨e, he, rfl⟩ := List.mem_map.mp h
    cases q : m.find? fun x => decide (x.1 = e.1) with
    | none => exact absurd (List.find?_eq_none.mp q e he) (by simp)
    | some y => exact ⟨y.2, rfl⟩
theorem Counts.mem {h : List Pile} {m : CM} (C : Counts h m) (k : Int × Int) : k ∈ m.map (·.1) ↔ k ∈ h.map keyOf := by
  rw [← getM_mem, C.get]
  by_cases e : k ∈ h.map keyOf
  · rw [if_pos e]; exact ⟨fun _ => e, fun _ => ⟨_, rfl⟩⟩
  · rw [if_neg e]; exact ⟨fun ⟨v, z⟩ => (nomatch z), fun z => absurd z e⟩
theorem Counts.snoc {h : List Pile} {m : CM} (C : Counts h m) (x : Pile) : Counts (h ++ [x]) (addM m x) := by
  refine ⟨?_, fun k => ?_, ?_⟩
  · unfold addM
    rw [keys_set]
    split
    · exact C.nd
    · rename_i n
      exact List.nodup_append.mpr ⟨C.nd, by simp, fun a ha b hb => by rw [List.mem_singleton.mp hb]; rintro rfl; exact n ha⟩
  · unfold addM
    rw [get_set, C.get, C.get, List.map_append, sumK_snoc, List.map_cons, List.map_nil]
    by_cases e : k = keyOf x
    · subst e
      rw [if_pos rfl, if_pos (List.mem_append.mpr (.inr List.mem_cons_self)), if_pos rfl]
      by_cases e2 : keyOf x ∈ h.map keyOf
      · rw [if_pos e2]; rfl
      · rw [if_neg e2, sumK_none e2]; rfl
    · have e' : ¬ keyOf x = k := fun z => e z.symm
      rw [if_neg e, if_neg e', Int.add_zero]
      by_cases e2 : k ∈ h.map keyOf
      · rw [if_pos e2, if_pos (List.mem_append.mpr (.inl e2))]
      · rw [if_neg e2, if_neg (fun z => by
          rcases List.mem_append.mp z with z | z
          · exact e2 z
          · exact e (List.mem_singleton.mp z))]
  · have := len_set m (keyOf x) ((getM m (keyOf x)).getD 0 + x.2.2)
    have := C.len
    rw [List.length_append]
    unfold addM
    simp only [List.length_cons, List.length_nil]
    omega
/-- the heap of some piles -/
structure IsPiled (h g : List Pile) : Prop where
  rise : g.Pairwise ltK
  keys : ∀ k, k ∈ g.map keyOf ↔ k ∈ h.map keyOf
  often : ∀ x ∈ g, x.2.2 = sumK h (keyOf x)
theorem rise_keys {g : List (Int × Int)} (nd : g.Nodup) (p : g.Pairwise fun a b => SrtO.lexB b a = false) (f : Int × Int → Int) : (g.map fun q => ((q.1, q.2, f q) : Pile)).Pairwise ltK := by
  rw [List.pairwise_map]
  refine (List.pairwise_and_iff.mpr ⟨nd, p⟩ : g.Pairwise fun a b => a ≠ b ∧ SrtO.lexB b a = false).imp fun {a b} h => ?_
  obtain ⟨n, l⟩ := h
  unfold SrtO.lexB at l
  unfold ltK
  show a.1 < b.1 ∨ a.1 = b.1 ∧ a.2 < b.2
  by_cases e : b.1 = a.1
  · rw [if_pos e] at l
    have l := of_decide_eq_false l
    have : a.2 ≠ b.2 := fun z => n (Prod.ext e.symm z)
    omega
  · rw [if_neg e] at l
    have l := of_decide_eq_false l
    omega
theorem Counts.piled {h : List Pile} {m : CM} (C : Counts h m) {qs : List (Int × Int)} (p : qs.Perm (m.map (·.1))) (s : qs.Pairwise fun a b => SrtO.lexB b a = false) : IsPiled h (qs.map fun q => (q.1, q.2, sumK h q)) := by
  refine ⟨rise_keys (p.nodup_iff.mpr C.nd) s _, fun k => ?_, fun x hx => ?_⟩
  · rw [List.map_map, ← C.mem, ← p.mem_iff]
    have : (keyOf ∘ fun q : Int × Int => ((q.1, q.2, sumK h q) : Pile)) = id := rfl
    rw [this, List.map_id]
  · obtain ⟨q, hq, rfl⟩ := List.mem_map.mp hx
    rfl
theorem IsPiled.nodup {h g : List Pile} (P : IsPiled h g) : (g.map keyOf).Nodup := rise_nodup P.rise
/-- piles of different keys are only put in sequence -/
theorem IsPiled.perm {h g : List Pile} (P : IsPiled h g) (nd : (h.map keyOf).Nodup) : g.Perm h := by
  have sk : ∀ y ∈ h, sumK h (keyOf y) = y.2.2 := fun y hy => by
    unfold sumK
    have : (h.filter fun x => decide (keyOf x = keyOf y)) = [y] := by
      clear P
      induction h with
      | nil => cases hy
      | cons a r ih =>
        rw [List.map_cons, List.nodup_cons] at nd
        rcases List.mem_cons.mp hy with rfl | hy
        · rw [List.filter_cons, if_pos (by simp), List.filter_eq_nil_iff.mpr]
          intro x hx
          simp only [decide_eq_true_eq]
          exact fun e => nd.1 (List.mem_map.mpr ⟨x, hx, e⟩)
        · have : ¬ keyOf a = keyOf y := fun e => nd.1 (List.mem_map.mpr ⟨y, hy, e.symm⟩)
          rw [List.filter_cons, if_neg (by simpa using this)]
          exact ih nd.2 hy
    rw [this]; simp
  have nd_of : ∀ {l : List Pile}, (l.map keyOf).Nodup → l.Nodup := fun {l} q => by
    unfold List.Nodup at q ⊢
    exact (List.pairwise_map.mp q).imp fun n e => n (congrArg keyOf e)
  refine (List.perm_ext_iff_of_nodup (nd_of P.nodup) (nd_of nd)).mpr fun x => ⟨fun hx => ?_, fun hx => ?_⟩
  · obtain ⟨y, hy, e⟩ := List.mem_map.mp ((P.keys (keyOf x)).mp (List.mem_map.mpr ⟨x, hx, rfl⟩))
    have o := P.often x hx
    rw [← e, sk y hy] at o
    have e1 : y.1 = x.1 := congrArg (Prod.fst : Int × Int → Int) e
    have e2 : y.2.1 = x.2.1 := congrArg (Prod.snd : Int × Int → Int) e
    have : y = x := Prod.ext e1 (Prod.ext e2 o.symm)
    rw [← this]; exact hy
  · obtain ⟨y, hy, e⟩ := List.mem_map.mp ((P.keys (keyOf x)).mpr (List.mem_map.mpr ⟨x, hx, rfl⟩))
    have o := P.often y hy
    rw [e, sk x hx] at o
    have e1 : y.1 = x.1 := congrArg (Prod.fst : Int × Int → Int) e
    have e2 : y.2.1 = x.2.1 := congrArg (Prod.snd : Int × Int → Int) e
    have : y = x := Prod.ext e1 (Prod.ext e2 o)
    rw [← this]; exact hy
end DD

namespace DD
open PySem L2
open PyProof.Rows (envOfC)
structure CA where
  c_BadHeap : Addr
  c_BadNumber : Addr
  c_BadPlaces : Addr
  c_BadWay : Addr
  fI : Addr
  k__law_refused_right : Addr
  k__law_crowded_right : Addr
  k_law : Addr
  p__law_refused_right : Addr
  p__law_crowded_right : Addr
def tabs (ca : CA) : List (Addr × Str) := [(ca.p__law_refused_right, "_law_refused_right.<locals>.<lambda>"), (ca.p__law_crowded_right, "_law_crowded_right.<locals>.<lambda>")]
def exs (ca : CA) : List (Addr × Str) := [(ca.c_BadWay, "way"), (ca.c_BadNumber, "number"), (ca.c_BadHeap, "heap")]
def isW : PyData → Bool
  | .int _ => true
  | _ => false
def isFT (v : PyData) (l h : Int) : Bool := match v with
  | .int i => decide (l ≤ i) && decide (i ≤ h)
  | _ => false
def isTL (v : PyData) (n : Int) : Bool := match v with
  | .tuple xs => decide ((xs.length : Int) = n)
  | _ => false
def isStr (p : Int) (v : PyData) : Bool := match v with
  | .tuple [a, b] => match b with
    | .int j => isFT (.int j) 0 (p - 1) && isFT a 0 j
    | _ => false
  | _ => false
abbrev dP (x : Pile) : PyData := .tuple [.int x.1, .int x.2.1, .int x.2.2]
abbrev heapD (h : List Pile) : PyData := .tuple (h.map dP)
def pileOf : PyData → Pile
  | .tuple [.int a, .int b, .int c] => (a, b, c)
  | _ => (0, 0, 0)
def pilesOf : PyData → List Pile
  | .tuple xs => xs.map pileOf
  | _ => []
def isPile (p : Int) (v : PyData) : Bool := match v with
  | .tuple [a, b, c] => isStr p (.tuple [a, b]) && isFT c 1 8
  | _ => false
instance (x y : Pile) : Decidable (ltK x y) := by unfold ltK; infer_instance
def risesB : List Pile → Bool
  | x :: y :: r => decide (ltK x y) && risesB (y :: r)
  | _ => true
def covP (h : List Pile) (k : Nat) : Int := ((h.filter fun x => decide (x.1 ≤ (k : Int)) && decide ((k : Int) ≤ x.2.1)).map (·.2.2)).sum
def highB (p : Nat) (h : List Pile) : Bool := (List.range p).any fun k => decide (8 < covP h k)
/-- what is a heap along p places -/
def isHp (p : Int) (v : PyData) : Bool := match v with
  | .tuple xs => xs.all (isPile p) && (risesB (xs.map pileOf) && !highB p.toNat (xs.map pileOf))
  | _ => false
def isWay : PyData → Bool
  | .str s => decide (s = Str.ofString "unions") || decide (s = Str.ofString "meets")
  | _ => false
def isWord (w : String) : PyData → Bool
  | .str s => decide (s = Str.ofString w)
  | _ => false
def tideB (m : Bool) (k : Int) (v : PyData) : Bool := isHp (2 * k - 1) v && (m || !(pilesOf v).any isLone)
def f_is_whole : PF := fun ds R _ => ∀ v, ds = [v] → R (.bool (isW v))
def f_is_from_to : PF := fun ds R _ => ∃ v l h, ds = [v, .int l, .int h] ∧ R (.bool (isFT v l h))
def f_is_tuple_long : PF := fun ds R _ => ∃ v n, ds = [v, .int n] ∧ R (.bool (isTL v n))
def f_is_stretch_of : PF := fun ds R _ => ∃ p v, ds = [.int p, v] ∧ R (.bool (isStr p v))
def f__law_draw : PF := fun ds R _ => ∃ n : Int, ds = [.int n] ∧ 0 < n ∧ n < 1073741824 ∧ ∀ k : Int, 0 ≤ k → k < n → R (.int k)
def f__law_pick : PF := fun ds R _ => ∃ xs, (ds = [.list xs] ∨ ds = [.tuple xs]) ∧ xs ≠ [] ∧ xs.length ≤ 100000 ∧ ∀ x ∈ xs, R x
def f_check_places (ca : CA) : PF := fun ds R _ => ∃ p : Int, ds = [.int p] ∧ 1 ≤ p ∧ p ≤ 17 ∧ R .none
def f_is_pile : PF := fun ds R _ => ∃ p v, ds = [.int p, v] ∧ R (.bool (isPile p v))
def f_covered : PF := fun ds R _ => ∃ (p : Int) (h : List Pile), ds = [.int p, heapD h] ∧ 1 ≤ p ∧ p ≤ 17 ∧ h.length ≤ 1000 ∧ R (.list ((List.range p.toNat).map fun k => .int (covP h k)))
def f_is_too_high : PF := fun ds R _ => ∃ (p : Int) (h : List Pile), ds = [.int p, heapD h] ∧ 1 ≤ p ∧ p ≤ 17 ∧ h.length ≤ 1000 ∧ R (.bool (highB p.toNat h))
def f_is_heap (ca : CA) : PF := fun ds R _ => ∃ (p : Int) (v : PyData), ds = [.int p, v] ∧ 1 ≤ p ∧ p ≤ 17 ∧ (∀ xs, v = .tuple xs → xs.length ≤ 1000) ∧ R (.bool (isHp p v))
def f_piled : PF := fun ds R _ => ∃ h : List Pile, ds = [.list (h.map dP)] ∧ h.length ≤ 5000 ∧ ∀ g : List Pile, IsPiled h g → R (heapD g)
def wOk : PyData → Bool
  | .str x => SeqAt.shaped (.str x)
  | _ => true
def f_is_net_way : PF := fun ds R _ => ∃ v, ds = [v] ∧ wOk v = true ∧ R (.bool (isWay v))
def f_check_way (ca : CA) : PF := fun ds R Er => ∃ v, ds = [v] ∧ wOk v = true ∧ (isWay v = true → R .none) ∧ (isWay v = false → Er.w ca.c_BadWay v)
def f_is_odd : PF := fun ds R _ => ∃ n : Int, ds = [.int n] ∧ -1000000 ≤ n ∧ n ≤ 1000000 ∧ R (.bool (decide (n % 2 = 1)))
def f_is_between : PF := fun ds R _ => ∃ a b : Int, ds = [.int a, .int b] ∧ -1000000 ≤ a ∧ a ≤ 1000000 ∧ R (.bool (decide (a = b) && decide (a % 2 = 1)))
def f_turned_begin : PF := fun ds R _ => ∃ a : Int, ds = [.int a] ∧ 0 ≤ a ∧ a ≤ 1000 ∧ R (.int (tb a))
def f_turned_end : PF := fun ds R _ => ∃ b l : Int, ds = [.int b, .int l] ∧ 0 ≤ b ∧ b ≤ 1000 ∧ R (.int (te l b))
def f_turned_piles : PF := fun ds R _ => ∃ (h : List Pile) (l : Int), ds = [heapD h, .int l] ∧ h.length ≤ 1000 ∧ (∀ x ∈ h, 0 ≤ x.1 ∧ x.1 ≤ x.2.1 ∧ x.2.1 ≤ 1000) ∧ R (.list (((h.filter fun x => !isLone x).map (turnP l)).map dP))
def f_piles_between : PF := fun ds R _ => ∃ h : List Pile, ds = [heapD h] ∧ h.length ≤ 1000 ∧ (∀ x ∈ h, 0 ≤ x.1 ∧ x.1 ≤ x.2.1 ∧ x.2.1 ≤ 1000) ∧ R (.list ((h.filter isLone).map dP))
def f_check_tide (ca : CA) : PF := fun ds R Er => ∃ (k : Int) (v : PyData) (m : Bool), ds = [.int k, v, .bool m] ∧ 1 ≤ k ∧ k ≤ 9 ∧ (∀ xs, v = .tuple xs → xs.length ≤ 1000) ∧ (tideB m k v = true → R .none) ∧ (tideB m k v = false → Er.w ca.c_BadHeap v)
def f_turned_over (ca : CA) : PF := fun ds R Er => ∃ w n g r, ds = [w, n, g, r] ∧ wOk w = true ∧ (∀ xs, g = .tuple xs → xs.length ≤ 1000) ∧ (∀ xs, r = .tuple xs → xs.length ≤ 1000) ∧ (isWay w = false → Er.w ca.c_BadWay w) ∧ (isWay w = true → (isFT n 1 9 = false → Er.w ca.c_BadNumber n) ∧ ∀ k : Int, n = .int k → 1 ≤ k → k ≤ 9 →
  (tideB (isWord "meets" w) k g = false → Er.w ca.c_BadHeap g) ∧ (tideB (isWord "meets" w) k g = true → (tideB (isWord "unions" w) k r = false → Er.w ca.c_BadHeap r) ∧ (tideB (isWord "unions" w) k r = true → ∀ G Q : List Pile, g = heapD G → r = heapD Q →
    ∀ a b : List Pile, IsPiled (turnedP (2 * k - 2) G Q) a → IsPiled (turnedP (2 * k - 2) Q G) b → R (.tuple [heapD a, heapD b]))))
def BitsOk (ns : List Int) : Prop := ∀ n ∈ ns, Builtin.Int.intBits n ≤ 1048576
def ok__law_source : List Int → Int → Prop := fun ns j => BitsOk ns ∧ 0 ≤ j ∧ j ≤ 3
def f__law_same : PF := fun ds R _ => ∃ d, ds = [d, d] ∧ Gs 60 16777216 d ∧ R (.bool true)
def f__law_is_lone : PF := fun ds R _ => ∃ a b : Int, ds = [.tuple [.int a, .int b]] ∧ R (.bool (decide (a = b) && decide (a % 2 = 1)))
def f__law_tide : PF := fun ds R _ => ∃ (h : List Pile) (l : Int), ds = [heapD h, .int l] ∧ h.length ≤ 1000 ∧ l % 2 = 0 ∧ (∀ x ∈ h, PileOk l x) ∧ R (.list [.list (((h.filter fun x => !isLone x).map (turnP l)).map dP), .list ((h.filter isLone).map dP)])
def f__law_turned_heaps : PF := fun ds R _ => ∃ (w : PyData) (G Q : List Pile) (l : Int), ds = [w, heapD G, heapD Q, .int l] ∧ G.length ≤ 100 ∧ Q.length ≤ 100 ∧ l % 2 = 0 ∧ Heap68 l G ∧ Heap68 l Q ∧ ∀ a b : List Pile, a.Perm (turnedP l G Q) → a.Pairwise ltK → b.Perm (turnedP l Q G) → b.Pairwise ltK → R (.tuple [heapD a, heapD b])
def f__law_drawn_heap : PF := fun ds R _ => ∃ (k : Int) (m : Bool), ds = [.int k, .bool m] ∧ 1 ≤ k ∧ k ≤ 9 ∧ ∀ h : List Pile, Heap68 (2 * k - 2) h → oftens h ≤ 4 → h.length ≤ 4 → (m = false → h.any isLone = false) → R (heapD h)
def OddHeap (k : Int) (d : PyData) : Prop := isHp (2 * k - 1) d = false ∧ Gs 50 100000 d ∧ ∀ xs, d = .tuple xs → xs.length ≤ 10
def f__law_odd_heap : PF := fun ds R _ => ∃ k : Int, ds = [.int k] ∧ 1 ≤ k ∧ k ≤ 9 ∧ ∀ d, OddHeap k d → R d
def f__law_refused_right (ca : CA) : PF := fun ds R _ => ∃ k : Int, ds = [.int k] ∧ 1 ≤ k ∧ k ≤ 9 ∧ R (.bool true)
def f__law_crowded_right (ca : CA) : PF := fun ds R _ => ∃ k : Int, ds = [.int k] ∧ 2 ≤ k ∧ k ≤ 9 ∧ R (.bool true)
def ok_law : List Int → Prop := fun ns => BitsOk ns ∧ ns.length ≤ 63

def top (i : Nat) : Stmt := PySem.Challenge.pw_staybars_k68_heaps_turned_over.main.body.getD i (.Pass ⟨0, 0, 0, 0⟩)
abbrev s_is_whole : Stmt := top 7
theorem sc_is_whole : FnScope ["value"] ["value"] (defScope s_is_whole) := ⟨rfl, rfl, rfl, by decide +kernel, rfl, by decide +kernel, by decide +kernel⟩
def d_is_whole : DS := (sRet (dAnd (dIsi "int" (dVar 0)) (dNot (dIsi "bool" (dVar 0)))))
abbrev s_is_from_to : Stmt := top 8
theorem sc_is_from_to : FnScope ["value", "low", "high"] ["value", "low", "high"] (defScope s_is_from_to) := ⟨rfl, rfl, rfl, by decide +kernel, rfl, by decide +kernel, by decide +kernel⟩
def d_is_from_to : DS := (sRet (dAnd (dFn (fun ds R Er => ds.length = 1 ∧ f_is_whole ds R Er) (dCons (dVar 0) dNil)) (dChain fLe fLe (dVar 1) (dVar 0) (dVar 2))))
abbrev s_is_tuple_long : Stmt := top 9
theorem sc_is_tuple_long : FnScope ["value", "many"] ["value", "many"] (defScope s_is_tuple_long) := ⟨rfl, rfl, rfl, by decide +kernel, rfl, by decide +kernel, by decide +kernel⟩
def d_is_tuple_long : DS := (sRet (dAnd (dIsi "tuple" (dVar 0)) (dOp fEq (dCall fLen (dCons (dVar 0) dNil)) (dVar 1))))
abbrev s_is_stretch_of : Stmt := top 10
theorem sc_is_stretch_of : FnScope ["places", "value", "a", "b"] ["places", "value"] (defScope s_is_stretch_of) := ⟨rfl, rfl, rfl, by decide +kernel, rfl, by decide +kernel, by decide +kernel⟩
def d_is_stretch_of : DS := (sSeq (sIf (dTNot (dTru (dFn (fun ds R Er => ds.length = 2 ∧ f_is_tuple_long ds R Er) (dCons (dVar 1) (dCons (dC (.int 2)) dNil))))) (sRet (dC (.bool false))) sNil) (sSeq (sAsg (dVar 1) (gT 2 (gCons' (gN 2) (gCons' (gN 3) gNil')))) (sRet (dAnd (dFn (fun ds R Er => ds.length = 3 ∧ f_is_from_to ds R Er) (dCons (dVar 3) (dCons (dC (.int 0)) (dCons (dOp fSub (dVar 0) (dC (.int 1))) dNil)))) (dFn (fun ds R Er => ds.length = 3 ∧ f_is_from_to ds R Er) (dCons (dVar 2) (dCons (dC (.int 0)) (dCons (dVar 3) dNil))))))))
abbrev s_check_places : Stmt := top 14
theorem sc_check_places : FnScope ["places"] ["places"] (defScope s_check_places) := ⟨rfl, rfl, rfl, by decide +kernel, rfl, by decide +kernel, by decide +kernel⟩
def d_check_places (ca : CA) : DS := (sIf (dTNot (dTru (dFn (fun ds R Er => ds.length = 3 ∧ f_is_from_to ds R Er) (dCons (dVar 0) (dCons (dC (.int 1)) (dCons (dC (.int 17)) dNil)))))) (sRaise ca.c_BadPlaces (dVar 0)) sNil)
abbrev s_is_pile : Stmt := top 15
theorem sc_is_pile : FnScope ["places", "value"] ["places", "value"] (defScope s_is_pile) := ⟨rfl, rfl, rfl, by decide +kernel, rfl, by decide +kernel, by decide +kernel⟩
def d_is_pile : DS := (sSeq (sIf (dTNot (dTru (dFn (fun ds R Er => ds.length = 2 ∧ f_is_tuple_long ds R Er) (dCons (dVar 1) (dCons (dC (.int 3)) dNil))))) (sRet (dC (.bool false))) sNil) (sRet (dAnd (dFn (fun ds R Er => ds.length = 2 ∧ f_is_stretch_of ds R Er) (dCons (dVar 0) (dCons (dSl (dVar 1) dNoPart (dPart (dC (.int 2)))) dNil))) (dFn (fun ds R Er => ds.length = 3 ∧ f_is_from_to ds R Er) (dCons (dOp fIx (dVar 1) (dC (.int 2))) (dCons (dC (.int 1)) (dCons (dC (.int 8)) dNil)))))))
abbrev s_covered : Stmt := top 16
theorem sc_covered : FnScope ["places", "heap", "a", "b", "often", "k"] ["places", "heap"] (defScope s_covered) := ⟨rfl, rfl, rfl, by decide +kernel, rfl, by decide +kernel, by decide +kernel⟩
def d_covered : DS := (sRet (dLc (dRange1 (dVar 0)) (gN 5) dYes (dCall fSum (dCons (dLc (dSeq (dVar 1)) (gT 3 (gCons' (gN 2) (gCons' (gN 3) (gCons' (gN 4) gNil')))) (dTChain fLe fLe (dVar 2) (dVar 5) (dVar 3)) (dVar 4) [2, 3, 4]) dNil)) [5]))
abbrev s_is_too_high : Stmt := top 17
theorem sc_is_too_high : FnScope ["places", "heap"] ["places", "heap"] (defScope s_is_too_high) := ⟨rfl, rfl, rfl, by decide +kernel, rfl, by decide +kernel, by decide +kernel⟩
def d_is_too_high : DS := (sRet (dOp fGt (dMaxB (dFn (fun ds R Er => ds.length = 2 ∧ f_covered ds R Er) (dCons (dVar 0) (dCons (dVar 1) dNil)))) (dC (.int 8))))
abbrev s_is_heap : Stmt := top 18
theorem sc_is_heap : FnScope ["places", "value", "pile", "stretches", "k"] ["places", "value"] (defScope s_is_heap) := ⟨rfl, rfl, rfl, by decide +kernel, rfl, by decide +kernel, by decide +kernel⟩
def d_is_heap (ca : CA) : DS := (sSeq (sDrop (dFn (fun ds R Er => ds.length = 1 ∧ f_check_places ca ds R Er) (dCons (dVar 0) dNil))) (sSeq (sIf (dTOr (dTNot (dTru (dIsi "tuple" (dVar 1)))) (dTNot (dTru (dCall fAll (dCons (dLc (dSeq (dVar 1)) (gN 2) dYes (dFn (fun ds R Er => ds.length = 2 ∧ f_is_pile ds R Er) (dCons (dVar 0) (dCons (dVar 2) dNil))) [2]) dNil))))) (sRet (dC (.bool false))) sNil) (sSeq (sSet 3 (dLc (dSeq (dVar 1)) (gN 2) dYes (dSl (dVar 2) dNoPart (dPart (dC (.int 2)))) [2])) (sSeq (sIf (dTru (dCall fAny (dCons (dLc (dRange1 (dOp fSub (dCall fLen (dCons (dVar 3) dNil)) (dC (.int 1)))) (gN 4) dYes (dOp fGeP (dOp fIx (dVar 3) (dVar 4)) (dOp fIx (dVar 3) (dOp fAdd (dVar 4) (dC (.int 1))))) [4]) dNil))) (sRet (dC (.bool false))) sNil) (sRet (dNot (dFn (fun ds R Er => ds.length = 2 ∧ f_is_too_high ds R Er) (dCons (dVar 0) (dCons (dVar 1) dNil)))))))))
abbrev s_piled : Stmt := top 19
theorem sc_piled : FnScope ["piles", "counts", "a", "b", "often"] ["piles"] (defScope s_piled) := ⟨rfl, rfl, rfl, by decide +kernel, rfl, by decide +kernel, by decide +kernel⟩
def d_piled : DS := (sSeq (sNewD 1) (sSeq (sFor (dSeq (dVar 0)) (gT 3 (gCons' (gN 2) (gCons' (gN 3) (gCons' (gN 4) gNil')))) (sDSet 1 (dCons (dVar 2) (dCons (dVar 3) dNil)) (dOp fAdd (dDGetD 1 (dCons (dVar 2) (dCons (dVar 3) dNil)) (dC (.int 0))) (dVar 4)))) (sRet (dCall fTupOf (dCons (dLc (dSeq (dSortedO 1)) (gT 2 (gCons' (gN 2) (gCons' (gN 3) gNil'))) dYes (dTup (dCons (dVar 2) (dCons (dVar 3) (dCons (dDGetT 1 (dCons (dVar 2) (dCons (dVar 3) dNil))) dNil)))) [2, 3]) dNil)))))
abbrev s_is_net_way : Stmt := top 24
theorem sc_is_net_way : FnScope ["value"] ["value"] (defScope s_is_net_way) := ⟨rfl, rfl, rfl, by decide +kernel, rfl, by decide +kernel, by decide +kernel⟩
def d_is_net_way : DS := (sRet (dAnd (dIsi "str" (dVar 0)) (dOp fInG (dVar 0) (dTup (dCons (dC (.str (Str.ofString "unions"))) (dCons (dC (.str (Str.ofString "meets"))) dNil))))))
abbrev s_check_way : Stmt := top 25
theorem sc_check_way : FnScope ["way"] ["way"] (defScope s_check_way) := ⟨rfl, rfl, rfl, by decide +kernel, rfl, by decide +kernel, by decide +kernel⟩
def d_check_way (ca : CA) : DS := (sIf (dTNot (dTru (dFn (fun ds R Er => ds.length = 1 ∧ f_is_net_way ds R Er) (dCons (dVar 0) dNil)))) (sRaise ca.c_BadWay (dVar 0)) sNil)
abbrev s_is_odd : Stmt := top 27
theorem sc_is_odd : FnScope ["place"] ["place"] (defScope s_is_odd) := ⟨rfl, rfl, rfl, by decide +kernel, rfl, by decide +kernel, by decide +kernel⟩
def d_is_odd : DS := (sRet (dOp fNe (dOp fMul (dOp fDiv (dVar 0) (dC (.int 2))) (dC (.int 2))) (dVar 0)))
abbrev s_is_between : Stmt := top 28
theorem sc_is_between : FnScope ["a", "b"] ["a", "b"] (defScope s_is_between) := ⟨rfl, rfl, rfl, by decide +kernel, rfl, by decide +kernel, by decide +kernel⟩
def d_is_between : DS := (sRet (dAnd (dOp fEq (dVar 0) (dVar 1)) (dFn (fun ds R Er => ds.length = 1 ∧ f_is_odd ds R Er) (dCons (dVar 0) dNil))))
abbrev s_turned_begin : Stmt := top 29
theorem sc_turned_begin : FnScope ["a"] ["a"] (defScope s_turned_begin) := ⟨rfl, rfl, rfl, by decide +kernel, rfl, by decide +kernel, by decide +kernel⟩
def d_turned_begin : DS := (sSeq (sIf (dTOp fEq (dVar 0) (dC (.int 0))) (sRet (dC (.int 0))) sNil) (sRet (dIf (dTru (dFn (fun ds R Er => ds.length = 1 ∧ f_is_odd ds R Er) (dCons (dVar 0) dNil))) (dOp fAdd (dVar 0) (dC (.int 1))) (dOp fSub (dVar 0) (dC (.int 1))))))
abbrev s_turned_end : Stmt := top 30
theorem sc_turned_end : FnScope ["b", "last"] ["b", "last"] (defScope s_turned_end) := ⟨rfl, rfl, rfl, by decide +kernel, rfl, by decide +kernel, by decide +kernel⟩
def d_turned_end : DS := (sSeq (sIf (dTOp fEq (dVar 0) (dVar 1)) (sRet (dVar 1)) sNil) (sRet (dIf (dTru (dFn (fun ds R Er => ds.length = 1 ∧ f_is_odd ds R Er) (dCons (dVar 0) dNil))) (dOp fSub (dVar 0) (dC (.int 1))) (dOp fAdd (dVar 0) (dC (.int 1))))))
abbrev s_turned_piles : Stmt := top 31
theorem sc_turned_piles : FnScope ["heap", "last", "kept", "pile", "a", "b", "often"] ["heap", "last"] (defScope s_turned_piles) := ⟨rfl, rfl, rfl, by decide +kernel, rfl, by decide +kernel, by decide +kernel⟩
def d_turned_piles : DS := (sSeq (sSet 2 (dLc (dSeq (dVar 0)) (gN 3) (dTNot (dTru (dFn (fun ds R Er => ds.length = 2 ∧ f_is_between ds R Er) (dCons (dOp fIx (dVar 3) (dC (.int 0))) (dCons (dOp fIx (dVar 3) (dC (.int 1))) dNil))))) (dVar 3) [3])) (sRet (dLc (dSeq (dVar 2)) (gT 3 (gCons' (gN 4) (gCons' (gN 5) (gCons' (gN 6) gNil')))) dYes (dTup (dCons (dFn (fun ds R Er => ds.length = 1 ∧ f_turned_begin ds R Er) (dCons (dVar 4) dNil)) (dCons (dFn (fun ds R Er => ds.length = 2 ∧ f_turned_end ds R Er) (dCons (dVar 5) (dCons (dVar 1) dNil))) (dCons (dVar 6) dNil)))) [4, 5, 6])))
abbrev s_piles_between : Stmt := top 32
theorem sc_piles_between : FnScope ["heap", "pile"] ["heap"] (defScope s_piles_between) := ⟨rfl, rfl, rfl, by decide +kernel, rfl, by decide +kernel, by decide +kernel⟩
def d_piles_between : DS := (sRet (dLc (dSeq (dVar 0)) (gN 1) (dTru (dFn (fun ds R Er => ds.length = 2 ∧ f_is_between ds R Er) (dCons (dOp fIx (dVar 1) (dC (.int 0))) (dCons (dOp fIx (dVar 1) (dC (.int 1))) dNil)))) (dVar 1) [1]))
abbrev s_check_tide : Stmt := top 33
theorem sc_check_tide : FnScope ["days", "heap", "may_be_between"] ["days", "heap", "may_be_between"] (defScope s_check_tide) := ⟨rfl, rfl, rfl, by decide +kernel, rfl, by decide +kernel, by decide +kernel⟩
def d_check_tide (ca : CA) : DS := (sSeq (sIf (dTNot (dTru (dFn (fun ds R Er => ds.length = 2 ∧ f_is_heap ca ds R Er) (dCons (dOp fSub (dOp fMul (dC (.int 2)) (dVar 0)) (dC (.int 1))) (dCons (dVar 1) dNil))))) (sRaise ca.c_BadHeap (dVar 1)) sNil) (sIf (dTAnd (dTNot (dTru (dVar 2))) (dTru (dFn (fun ds R Er => ds.length = 1 ∧ f_piles_between ds R Er) (dCons (dVar 1) dNil)))) (sRaise ca.c_BadHeap (dVar 1)) sNil))
abbrev s_turned_over : Stmt := top 34
theorem sc_turned_over : FnScope ["way", "days", "groups_heap", "rings_heap", "last", "groups", "rings"] ["way", "days", "groups_heap", "rings_heap"] (defScope s_turned_over) := ⟨rfl, rfl, rfl, by decide +kernel, rfl, by decide +kernel, by decide +kernel⟩
def d_turned_over (ca : CA) : DS := (sSeq (sDrop (dFn (fun ds R Er => ds.length = 1 ∧ f_check_way ca ds R Er) (dCons (dVar 0) dNil))) (sSeq (sIf (dTNot (dTru (dFn (fun ds R Er => ds.length = 3 ∧ f_is_from_to ds R Er) (dCons (dVar 1) (dCons (dC (.int 1)) (dCons (dOp fAdd (dC (.int 8)) (dC (.int 1))) dNil)))))) (sRaise ca.c_BadNumber (dVar 1)) sNil) (sSeq (sDrop (dFn (fun ds R Er => ds.length = 3 ∧ f_check_tide ca ds R Er) (dCons (dVar 1) (dCons (dVar 2) (dCons (dOp fEq (dVar 0) (dC (.str (Str.ofString "meets")))) dNil))))) (sSeq (sDrop (dFn (fun ds R Er => ds.length = 3 ∧ f_check_tide ca ds R Er) (dCons (dVar 1) (dCons (dVar 3) (dCons (dOp fEq (dVar 0) (dC (.str (Str.ofString "unions")))) dNil))))) (sSeq (sSet 4 (dOp fSub (dOp fMul (dC (.int 2)) (dVar 1)) (dC (.int 2)))) (sSeq (sSet 5 (dOp fAdd (dFn (fun ds R Er => ds.length = 2 ∧ f_turned_piles ds R Er) (dCons (dVar 2) (dCons (dVar 4) dNil))) (dFn (fun ds R Er => ds.length = 1 ∧ f_piles_between ds R Er) (dCons (dVar 3) dNil)))) (sSeq (sSet 6 (dOp fAdd (dFn (fun ds R Er => ds.length = 2 ∧ f_turned_piles ds R Er) (dCons (dVar 3) (dCons (dVar 4) dNil))) (dFn (fun ds R Er => ds.length = 1 ∧ f_piles_between ds R Er) (dCons (dVar 2) dNil)))) (sRet (dTup (dCons (dFn (fun ds R Er => ds.length = 1 ∧ f_piled ds R Er) (dCons (dVar 5) dNil)) (dCons (dFn (fun ds R Er => ds.length = 1 ∧ f_piled ds R Er) (dCons (dVar 6) dNil)) dNil)))))))))))
abbrev s__law_source : Stmt := top 36
theorem sc__law_source : FnScope ["_law_script", "_law_start", "_law_mixed", "_law_cell", "_law_own"] ["_law_script", "_law_start"] (defScope s__law_source) := ⟨rfl, rfl, rfl, by decide +kernel, rfl, by decide +kernel, by decide +kernel⟩
def d__law_source : DN := (nSeq (sSet 2 (dOp fAdd (dC (.int 101)) (dVar 1))) (nSeq (sFor (dScr 0) (gN 3) (sSet 2 (dOp fAdd (dOp fMod (dCall fInt (dCons (dOp fPow (dCall fInt (dCons (dOp fAdd (dOp fMul (dVar 2) (dC (.int 50021))) (dCall fInt (dCons (dVar 3) dNil))) dNil)) (dC (.int 3))) dNil)) (dC (.int 2147483563))) (dC (.int 1))))) (nSeq (sSet 4 (dC (.int 0))) (nSeq (sIf (dTAnd (dTOp fLt (dVar 1) (dLenO 0)) (dTOp fGe (dScrIx 0 (dVar 1)) (dOp fPow (dC (.int 10)) (dC (.int 18))))) (sSet 4 (dOp fSub (dScrIx 0 (dVar 1)) (dOp fPow (dC (.int 10)) (dC (.int 18))))) sNil) (nRet (dCons (dVar 4) (dCons (dVar 2) dNil)))))))
abbrev s__law_draw : Stmt := top 37
theorem sc__law_draw : FnScope ["_law_source_here", "_law_span", "_law_found"] ["_law_source_here", "_law_span"] (defScope s__law_draw) := ⟨rfl, rfl, rfl, by decide +kernel, rfl, by decide +kernel, by decide +kernel⟩
def d__law_draw : DS := (sSeq (sIf (dTOp fGe (dSrc0 0) (dVar 1)) (sSeq (sSet 2 (dOp fMod (dCall fInt (dCons (dSrc0 0) dNil)) (dVar 1))) (sSeq (sSrc0 0 (dOp fDiv (dSrc0 0) (dVar 1))) (sRet (dVar 2)))) sNil) (sSeq (sSrc1 0 (dOp fMod (dCall fInt (dCons (dOp fAdd (dOp fMul (dSrc1 0) (dC (.int 69621))) (dC (.int 7129))) dNil)) (dC (.int 2147483647)))) (sRet (dOp fMod (dCall fInt (dCons (dOp fDiv (dOp fMod (dCall fInt (dCons (dOp fPow (dCall fInt (dCons (dSrc1 0) dNil)) (dC (.int 5))) dNil)) (dC (.int 1000000007))) (dC (.int 41))) dNil)) (dVar 1)))))
abbrev s__law_pick : Stmt := top 38
theorem sc__law_pick : FnScope ["_law_source_here", "_law_some"] ["_law_source_here", "_law_some"] (defScope s__law_pick) := ⟨rfl, rfl, rfl, by decide +kernel, rfl, by decide +kernel, by decide +kernel⟩
def d__law_pick : DS := (sRet (dOp fIx (dVar 1) (dFnS 0 (fun ds R Er => ds.length + 1 = 2 ∧ f__law_draw ds R Er) (dCons (dCall fLen (dCons (dVar 1) dNil)) dNil))))
abbrev s__law_same : Stmt := top 39
theorem sc__law_same : FnScope ["_law_told", "_law_due"] ["_law_told", "_law_due"] (defScope s__law_same) := ⟨rfl, rfl, rfl, by decide +kernel, rfl, by decide +kernel, by decide +kernel⟩
def d__law_same : DS := (sRet (dOp fEq (dCall fReprD (dCons (dVar 0) dNil)) (dCall fReprD (dCons (dVar 1) dNil))))
abbrev s__law_is_lone : Stmt := top 40
theorem sc__law_is_lone : FnScope ["_law_bar"] ["_law_bar"] (defScope s__law_is_lone) := ⟨rfl, rfl, rfl, by decide +kernel, rfl, by decide +kernel, by decide +kernel⟩
def d__law_is_lone : DS := (sRet (dAnd (dOp fEq (dOp fIx (dVar 0) (dC (.int 0))) (dOp fIx (dVar 0) (dC (.int 1)))) (dOp fEq (dOp fMod (dOp fIx (dVar 0) (dC (.int 0))) (dC (.int 2))) (dC (.int 1)))))
abbrev s__law_tide : Stmt := top 41
theorem sc__law_tide : FnScope ["_law_heap", "_law_last", "_law_moved", "_law_lone", "_law_begin", "_law_end", "_law_often", "_law_early", "_law_late"] ["_law_heap", "_law_last"] (defScope s__law_tide) := ⟨rfl, rfl, rfl, by decide +kernel, rfl, by decide +kernel, by decide +kernel⟩
def d__law_tide : DS := (sSeq (sParNN 2 3) (sSeq (sFor (dSeq (dVar 0)) (gT 3 (gCons' (gN 4) (gCons' (gN 5) (gCons' (gN 6) gNil')))) (sIf (dTAnd (dTOp fEq (dVar 4) (dVar 5)) (dTOp fEq (dOp fMod (dVar 4) (dC (.int 2))) (dC (.int 1)))) (sApp 3 (dTup (dCons (dVar 4) (dCons (dVar 5) (dCons (dVar 6) dNil))))) (sSeq (sPar 7 8 (dCons (dOp fIx (dLst (dCons (dOp fSub (dVar 4) (dC (.int 1))) (dCons (dOp fAdd (dVar 4) (dC (.int 1))) dNil))) (dOp fMod (dVar 4) (dC (.int 2)))) (dCons (dOp fIx (dLst (dCons (dOp fAdd (dVar 5) (dC (.int 1))) (dCons (dOp fSub (dVar 5) (dC (.int 1))) dNil))) (dOp fMod (dVar 5) (dC (.int 2)))) dNil))) (sApp 2 (dTup (dCons (dIf (dTOp fGt (dVar 4) (dC (.int 0))) (dVar 7) (dC (.int 0))) (dCons (dIf (dTOp fLt (dVar 5) (dVar 1)) (dVar 8) (dVar 1)) (dCons (dVar 6) dNil)))))))) (sRet (dLst (dCons (dVarF 2) (dCons (dVarF 3) dNil))))))
abbrev s__law_turned_heaps : Stmt := top 42
theorem sc__law_turned_heaps : FnScope ["_law_way", "_law_groups_heap", "_law_rings_heap", "_law_last", "_law_found"] ["_law_way", "_law_groups_heap", "_law_rings_heap", "_law_last"] (defScope s__law_turned_heaps) := ⟨rfl, rfl, rfl, by decide +kernel, rfl, by decide +kernel, by decide +kernel⟩
def d__law_turned_heaps : DS := (sSeq (sSet 4 (dLst (dCons (dFn (fun ds R Er => ds.length = 2 ∧ f__law_tide ds R Er) (dCons (dVar 1) (dCons (dVar 3) dNil))) (dCons (dFn (fun ds R Er => ds.length = 2 ∧ f__law_tide ds R Er) (dCons (dVar 2) (dCons (dVar 3) dNil))) dNil)))) (sRet (dTup (dCons (dCall fTupOf (dCons (dSortedD (dOp fAdd (dOp fIx (dOp fIx (dVar 4) (dC (.int 0))) (dC (.int 0))) (dOp fIx (dOp fIx (dVar 4) (dC (.int 1))) (dC (.int 1))))) dNil)) (dCons (dCall fTupOf (dCons (dSortedD (dOp fAdd (dOp fIx (dOp fIx (dVar 4) (dC (.int 1))) (dC (.int 0))) (dOp fIx (dOp fIx (dVar 4) (dC (.int 0))) (dC (.int 1))))) dNil)) dNil)))))
abbrev s__law_drawn_heap : Stmt := top 43
theorem sc__law_drawn_heap : FnScope ["_law_source_here", "_law_days", "_law_may_be_lone", "_law_found", "_law_last", "_law_turn", "_law_begin", "_law_end", "_law_bar"] ["_law_source_here", "_law_days", "_law_may_be_lone"] (defScope s__law_drawn_heap) := ⟨rfl, rfl, rfl, by decide +kernel, rfl, by decide +kernel, by decide +kernel⟩
def d__law_drawn_heap : DS := (sSeq (sParED 3 4 (dOp fSub (dOp fMul (dC (.int 2)) (dVar 1)) (dC (.int 2)))) (sSeq (sFor (dRange1 (dFnS 0 (fun ds R Er => ds.length + 1 = 2 ∧ f__law_draw ds R Er) (dCons (dC (.int 5)) dNil))) (gN 5) (sSeq (sSet 6 (dFnS 0 (fun ds R Er => ds.length + 1 = 2 ∧ f__law_draw ds R Er) (dCons (dOp fAdd (dVar 4) (dC (.int 1))) dNil))) (sSeq (sSet 7 (dOp fAdd (dVar 6) (dFnS 0 (fun ds R Er => ds.length + 1 = 2 ∧ f__law_draw ds R Er) (dCons (dOp fSub (dOp fAdd (dVar 4) (dC (.int 1))) (dVar 6)) dNil)))) (sSeq (sIf (dTOp fEq (dFnS 0 (fun ds R Er => ds.length + 1 = 2 ∧ f__law_draw ds R Er) (dCons (dC (.int 4)) dNil)) (dC (.int 0))) (sSet 7 (dVar 6)) sNil) (sIf (dTOr (dTru (dVar 2)) (dTNot (dTru (dFn (fun ds R Er => ds.length = 1 ∧ f__law_is_lone ds R Er) (dCons (dTup (dCons (dVar 6) (dCons (dVar 7) dNil))) dNil))))) (sDSet 3 (dCons (dVar 6) (dCons (dVar 7) dNil)) (dOp fAdd (dDGetD 3 (dCons (dVar 6) (dCons (dVar 7) dNil)) (dC (.int 0))) (dC (.int 1)))) sNil))))) (sRet (dCall fTupOf (dCons (dLc (dSeq (dSortedO 3)) (gN 8) dYes (dOp fAdd (dVar 8) (dTup (dCons (dDGetE 3 (dVar 8)) dNil))) [8]) dNil)))))
abbrev s__law_caught : Stmt := top 44
theorem sc__law_caught : FnScope ["_law_call", "error"] ["_law_call"] (defScope s__law_caught) := ⟨rfl, rfl, rfl, by decide +kernel, rfl, by decide +kernel, by decide +kernel⟩
abbrev s__law_odd_heap : Stmt := top 45
theorem sc__law_odd_heap : FnScope ["_law_source_here", "_law_days", "_law_last", "_law_some"] ["_law_source_here", "_law_days"] (defScope s__law_odd_heap) := ⟨rfl, rfl, rfl, by decide +kernel, rfl, by decide +kernel, by decide +kernel⟩
def d__law_odd_heap : DS := (sSeq (sSet 2 (dOp fSub (dOp fMul (dC (.int 2)) (dVar 1)) (dC (.int 2)))) (sSeq (sSet 3 (dLst (dCons (dC .none) (dCons (dLst dNil) (dCons (dC (.int 5)) (dCons (dC (.str (Str.ofString ""))) (dCons (dTup (dCons (dTup (dCons (dC (.int 0)) (dCons (dC (.int 0)) (dCons (dC (.int 0)) dNil)))) dNil)) (dCons (dTup (dCons (dTup (dCons (dC (.int 0)) (dCons (dC (.int 0)) dNil))) dNil)) (dCons (dTup (dCons (dTup (dCons (dC (.int 0)) (dCons (dOp fAdd (dVar 2) (dC (.int 1))) (dCons (dC (.int 1)) dNil)))) dNil)) (dCons (dTup (dCons (dTup (dCons (dOp fSub (dC (.int 0)) (dC (.int 1))) (dCons (dC (.int 0)) (dCons (dC (.int 1)) dNil)))) dNil)) (dCons (dTup (dCons (dLst (dCons (dC (.int 0)) (dCons (dC (.int 0)) (dCons (dC (.int 1)) dNil)))) dNil)) dNil))))))))))) (sSeq (sSet 3 (dOp fAdd (dVar 3) (dLst (dCons (dTup (dCons (dTup (dCons (dVar 2) (dCons (dOp fSub (dVar 2) (dC (.int 1))) (dCons (dC (.int 1)) dNil)))) dNil)) (dCons (dTup (dCons (dTup (dCons (dC (.int 0)) (dCons (dC (.int 0)) (dCons (dC (.int 9)) dNil)))) dNil)) dNil))))) (sSeq (sSet 3 (dOp fAdd (dVar 3) (dLst (dCons (dTup (dCons (dTup (dCons (dC (.int 0)) (dCons (dC (.int 0)) (dCons (dC (.int 1)) dNil)))) (dCons (dTup (dCons (dC (.int 0)) (dCons (dC (.int 0)) (dCons (dC (.int 1)) dNil)))) dNil))) (dCons (dTup (dCons (dTup (dCons (dC (.int 0)) (dCons (dC (.int 0)) (dCons (dC (.bool true)) dNil)))) dNil)) (dCons (dTup (dCons (dTup (dCons (dC (.bool false)) (dCons (dC (.int 0)) (dCons (dC (.int 1)) dNil)))) dNil)) (dCons (dLst (dCons (dTup (dCons (dC (.int 0)) (dCons (dC (.int 0)) (dCons (dC (.int 1)) dNil)))) dNil)) (dCons (dDict1T (dCons (dC (.int 0)) (dCons (dC (.int 0)) dNil)) (dC (.int 1))) (dCons (dTup (dCons (dTup (dCons (dC (.int 0)) (dCons (dC (.int 0)) (dCons (dC (.int 1)) (dCons (dC (.int 1)) dNil))))) dNil)) dNil))))))))) (sSeq (sIf (dTOp fGt (dVar 2) (dC (.int 0))) (sSet 3 (dOp fAdd (dVar 3) (dLst (dCons (dTup (dCons (dTup (dCons (dC (.int 1)) (dCons (dC (.int 2)) (dCons (dC (.int 1)) dNil)))) (dCons (dTup (dCons (dC (.int 0)) (dCons (dC (.int 2)) (dCons (dC (.int 1)) dNil)))) dNil))) (dCons (dTup (dCons (dTup (dCons (dC (.int 2)) (dCons (dC (.int 1)) (dCons (dC (.int 1)) dNil)))) dNil)) (dCons (dTup (dCons (dTup (dCons (dC (.int 0)) (dCons (dC (.int 2)) (dCons (dC (.int 1)) dNil)))) (dCons (dTup (dCons (dC (.int 0)) (dCons (dC (.int 1)) (dCons (dC (.int 1)) dNil)))) dNil))) (dCons (dTup (dCons (dTup (dCons (dC (.int 0)) (dCons (dC (.int 0)) (dCons (dC (.int 5)) dNil)))) (dCons (dTup (dCons (dC (.int 0)) (dCons (dC (.int 2)) (dCons (dC (.int 4)) dNil)))) dNil))) dNil))))))) sNil) (sRet (dFnS 0 (fun ds R Er => ds.length + 1 = 2 ∧ f__law_pick ds R Er) (dCons (dVar 3) dNil))))))))
abbrev s__law_refused_right : Stmt := top 46
theorem sc__law_refused_right : FnScope ["_law_source_here", "_law_days", "_law_way", "_law_many", "_law_odd", "_law_fine", "_law_found", "_law_at", "_law_lone"] ["_law_source_here", "_law_days"] (defScope s__law_refused_right) := ⟨rfl, rfl, rfl, by decide +kernel, rfl, by decide +kernel, by decide +kernel⟩
def d__law_refused_right (ca : CA) : DS := (sSeq (sSet 2 (dFnS 0 (fun ds R Er => ds.length + 1 = 2 ∧ f__law_pick ds R Er) (dCons (dLst (dCons (dC .none) (dCons (dC (.str (Str.ofString "union"))) (dCons (dC (.str (Str.ofString ""))) (dCons (dTup (dCons (dC (.str (Str.ofString "unions"))) dNil)) (dCons (dC (.int 0)) (dCons (dC (.bool true)) (dCons (dLst (dCons (dC (.str (Str.ofString "meets"))) dNil)) dNil)))))))) dNil))) (sSeq (sSet 3 (dFnS 0 (fun ds R Er => ds.length + 1 = 2 ∧ f__law_pick ds R Er) (dCons (dLst (dCons (dC .none) (dCons (dC (.int 0)) (dCons (dC (.int 10)) (dCons (dC (.str (Str.ofString "1"))) (dCons (dC (.bool true)) (dCons (dTup (dCons (dC (.int 1)) dNil)) (dCons (dOp fSub (dC (.int 0)) (dC (.int 1))) (dCons (dOp fPow (dC (.int 10)) (dC (.int 30))) (dCons (dLst dNil) dNil)))))))))) dNil))) (sSeq (sAsg (dTup (dCons (dFnS 0 (fun ds R Er => ds.length + 1 = 2 ∧ f__law_odd_heap ds R Er) (dCons (dVar 1) dNil)) (dCons (dFnS 0 (fun ds R Er => ds.length + 1 = 2 ∧ f__law_pick ds R Er) (dCons (dLst (dCons (dC (.str (Str.ofString "unions"))) (dCons (dC (.str (Str.ofString "meets"))) dNil))) dNil)) dNil))) (gT 2 (gCons' (gN 4) (gCons' (gN 5) gNil')))) (sSeq (sSetO 6 (dCons (dCaught ca.p__law_refused_right "_law_refused_right.<locals>.<lambda>" "told" [(ca.c_BadWay, "way"), (ca.c_BadNumber, "number"), (ca.c_BadHeap, "heap")] (dFn (fun ds R Er => ds.length = 4 ∧ f_turned_over ca ds R Er) (dCons (dVar 2) (dCons (dVar 3) (dCons (dVar 4) (dCons (dVar 4) dNil)))))) dNil)) (sSeq (sApp 6 (dCaught ca.p__law_refused_right "_law_refused_right.<locals>.<lambda>" "told" [(ca.c_BadWay, "way"), (ca.c_BadNumber, "number"), (ca.c_BadHeap, "heap")] (dFn (fun ds R Er => ds.length = 4 ∧ f_turned_over ca ds R Er) (dCons (dVar 5) (dCons (dVar 3) (dCons (dVar 4) (dCons (dC .none) dNil))))))) (sSeq (sApp 6 (dCaught ca.p__law_refused_right "_law_refused_right.<locals>.<lambda>" "told" [(ca.c_BadWay, "way"), (ca.c_BadNumber, "number"), (ca.c_BadHeap, "heap")] (dFn (fun ds R Er => ds.length = 4 ∧ f_turned_over ca ds R Er) (dCons (dVar 5) (dCons (dVar 1) (dCons (dVar 4) (dCons (dC .none) dNil))))))) (sSeq (sApp 6 (dCaught ca.p__law_refused_right "_law_refused_right.<locals>.<lambda>" "told" [(ca.c_BadWay, "way"), (ca.c_BadNumber, "number"), (ca.c_BadHeap, "heap")] (dFn (fun ds R Er => ds.length = 4 ∧ f_turned_over ca ds R Er) (dCons (dVar 5) (dCons (dVar 1) (dCons (dTup dNil) (dCons (dVar 4) dNil))))))) (sSeq (sIf (dTNot (dTru (dFn (fun ds R Er => ds.length = 2 ∧ f__law_same ds R Er) (dCons (dVarF 6) (dCons (dLst (dCons (dLst (dCons (dC (.str (Str.ofString "way"))) (dCons (dVar 2) dNil))) (dCons (dLst (dCons (dC (.str (Str.ofString "number"))) (dCons (dVar 3) dNil))) (dCons (dLst (dCons (dC (.str (Str.ofString "heap"))) (dCons (dVar 4) dNil))) (dCons (dLst (dCons (dC (.str (Str.ofString "heap"))) (dCons (dVar 4) dNil))) dNil))))) dNil))))) (sRet (dC (.bool false))) sNil) (sSeq (sIf (dTOp fLt (dVar 1) (dC (.int 2))) (sRet (dC (.bool true))) sNil) (sSeq (sSet 7 (dOp fAdd (dOp fMul (dC (.int 2)) (dFnS 0 (fun ds R Er => ds.length + 1 = 2 ∧ f__law_draw ds R Er) (dCons (dOp fSub (dVar 1) (dC (.int 1))) dNil))) (dC (.int 1)))) (sSeq (sSet 8 (dTup (dCons (dTup (dCons (dC (.int 0)) (dCons (dOp fSub (dVar 7) (dC (.int 1))) (dCons (dC (.int 1)) dNil)))) (dCons (dTup (dCons (dVar 7) (dCons (dVar 7) (dCons (dOp fAdd (dC (.int 1)) (dFnS 0 (fun ds R Er => ds.length + 1 = 2 ∧ f__law_draw ds R Er) (dCons (dC (.int 3)) dNil))) dNil)))) (dCons (dTup (dCons (dOp fAdd (dVar 7) (dC (.int 1))) (dCons (dOp fSub (dOp fMul (dC (.int 2)) (dVar 1)) (dC (.int 2))) (dCons (dC (.int 2)) dNil)))) dNil))))) (sSeq (sSetO 6 (dCons (dCaught ca.p__law_refused_right "_law_refused_right.<locals>.<lambda>" "told" [(ca.c_BadWay, "way"), (ca.c_BadNumber, "number"), (ca.c_BadHeap, "heap")] (dFn (fun ds R Er => ds.length = 4 ∧ f_turned_over ca ds R Er) (dCons (dC (.str (Str.ofString "unions"))) (dCons (dVar 1) (dCons (dVar 8) (dCons (dVar 4) dNil)))))) dNil)) (sSeq (sApp 6 (dCaught ca.p__law_refused_right "_law_refused_right.<locals>.<lambda>" "told" [(ca.c_BadWay, "way"), (ca.c_BadNumber, "number"), (ca.c_BadHeap, "heap")] (dFn (fun ds R Er => ds.length = 4 ∧ f_turned_over ca ds R Er) (dCons (dC (.str (Str.ofString "meets"))) (dCons (dVar 1) (dCons (dTup dNil) (dCons (dVar 8) dNil))))))) (sRet (dFn (fun ds R Er => ds.length = 2 ∧ f__law_same ds R Er) (dCons (dVarF 6) (dCons (dOp fMul (dLst (dCons (dLst (dCons (dC (.str (Str.ofString "heap"))) (dCons (dVar 8) dNil))) dNil)) (dC (.int 2))) dNil)))))))))))))))))
abbrev s__law_crowded_right : Stmt := top 47
theorem sc__law_crowded_right : FnScope ["_law_source_here", "_law_days", "_law_at", "_law_last", "_law_lone", "_law_great", "_law_due", "_law_found"] ["_law_source_here", "_law_days"] (defScope s__law_crowded_right) := ⟨rfl, rfl, rfl, by decide +kernel, rfl, by decide +kernel, by decide +kernel⟩
def d__law_crowded_right (ca : CA) : DS := (sSeq (sPar 2 3 (dCons (dOp fAdd (dOp fMul (dC (.int 2)) (dFnS 0 (fun ds R Er => ds.length + 1 = 2 ∧ f__law_draw ds R Er) (dCons (dOp fSub (dVar 1) (dC (.int 1))) dNil))) (dC (.int 1))) (dCons (dOp fSub (dOp fMul (dC (.int 2)) (dVar 1)) (dC (.int 2))) dNil))) (sSeq (sPar 4 5 (dCons (dTup (dCons (dVar 2) (dCons (dVar 2) (dCons (dOp fAdd (dC (.int 4)) (dFnS 0 (fun ds R Er => ds.length + 1 = 2 ∧ f__law_draw ds R Er) (dCons (dC (.int 5)) dNil))) dNil)))) (dCons (dTup (dCons (dC (.int 0)) (dCons (dVar 3) (dCons (dOp fAdd (dC (.int 5)) (dFnS 0 (fun ds R Er => ds.length + 1 = 2 ∧ f__law_draw ds R Er) (dCons (dC (.int 4)) dNil))) dNil)))) dNil))) (sSeq (sSet 6 (dCall fTupOf (dCons (dSortedD (dLst (dCons (dVar 4) (dCons (dVar 5) dNil)))) dNil))) (sSeq (sIf (dTNot (dTru (dFn (fun ds R Er => ds.length = 2 ∧ f__law_same ds R Er) (dCons (dFn (fun ds R Er => ds.length = 4 ∧ f_turned_over ca ds R Er) (dCons (dC (.str (Str.ofString "unions"))) (dCons (dVar 1) (dCons (dTup (dCons (dVar 5) dNil)) (dCons (dTup (dCons (dVar 4) dNil)) dNil))))) (dCons (dTup (dCons (dVar 6) (dCons (dTup dNil) dNil))) dNil))))) (sRet (dC (.bool false))) sNil) (sSeq (sIf (dTNot (dTru (dFn (fun ds R Er => ds.length = 2 ∧ f__law_same ds R Er) (dCons (dFn (fun ds R Er => ds.length = 4 ∧ f_turned_over ca ds R Er) (dCons (dC (.str (Str.ofString "meets"))) (dCons (dVar 1) (dCons (dTup (dCons (dVar 4) dNil)) (dCons (dTup (dCons (dVar 5) dNil)) dNil))))) (dCons (dTup (dCons (dTup dNil) (dCons (dVar 6) dNil))) dNil))))) (sRet (dC (.bool false))) sNil) (sSeq (sSetO 7 (dCons (dCaught ca.p__law_crowded_right "_law_crowded_right.<locals>.<lambda>" "told" [(ca.c_BadWay, "way"), (ca.c_BadNumber, "number"), (ca.c_BadHeap, "heap")] (dFn (fun ds R Er => ds.length = 4 ∧ f_turned_over ca ds R Er) (dCons (dC (.str (Str.ofString "meets"))) (dCons (dVar 1) (dCons (dVar 6) (dCons (dTup dNil) dNil)))))) dNil)) (sSeq (sApp 7 (dCaught ca.p__law_crowded_right "_law_crowded_right.<locals>.<lambda>" "told" [(ca.c_BadWay, "way"), (ca.c_BadNumber, "number"), (ca.c_BadHeap, "heap")] (dFn (fun ds R Er => ds.length = 4 ∧ f_turned_over ca ds R Er) (dCons (dC (.str (Str.ofString "unions"))) (dCons (dVar 1) (dCons (dTup dNil) (dCons (dVar 6) dNil))))))) (sRet (dFn (fun ds R Er => ds.length = 2 ∧ f__law_same ds R Er) (dCons (dVarF 7) (dCons (dOp fMul (dLst (dCons (dLst (dCons (dC (.str (Str.ofString "heap"))) (dCons (dVar 6) dNil))) dNil)) (dC (.int 2))) dNil)))))))))))
abbrev s_law : Stmt := top 48
theorem sc_law : FnScope ["_law_script", "_law_start", "_law_source_here", "_law_turn", "_law_days", "_law_way", "_law_other", "_law_heaps", "_law_told"] ["_law_script"] (defScope s_law) := ⟨rfl, rfl, rfl, by decide +kernel, rfl, by decide +kernel, by decide +kernel⟩
def d_law (ca : CA) : DS := (sSeq (sFor (dRange1 (dCall fMax2 (dCons (dC (.int 1)) (dCons (dCall fMin2 (dCons (dC (.int 3)) (dCons (dLenO 0) dNil))) dNil)))) (gN 1) (sNew 2 0 ok__law_source (dVar 1) (sFor (dRange1 (dC (.int 4))) (gN 3) (sSeq (sPar 4 5 (dCons (dOp fAdd (dC (.int 1)) (dFnS 2 (fun ds R Er => ds.length + 1 = 2 ∧ f__law_draw ds R Er) (dCons (dC (.int 9)) dNil))) (dCons (dFnS 2 (fun ds R Er => ds.length + 1 = 2 ∧ f__law_pick ds R Er) (dCons (dLst (dCons (dC (.str (Str.ofString "unions"))) (dCons (dC (.str (Str.ofString "meets"))) dNil))) dNil)) dNil))) (sSeq (sSet 6 (dIf (dTOp fEq (dVar 5) (dC (.str (Str.ofString "unions")))) (dC (.str (Str.ofString "meets"))) (dC (.str (Str.ofString "unions"))))) (sSeq (sSet 7 (dLst (dCons (dFnS 2 (fun ds R Er => ds.length + 1 = 3 ∧ f__law_drawn_heap ds R Er) (dCons (dVar 4) (dCons (dOp fEq (dVar 5) (dC (.str (Str.ofString "meets")))) dNil))) (dCons (dFnS 2 (fun ds R Er => ds.length + 1 = 3 ∧ f__law_drawn_heap ds R Er) (dCons (dVar 4) (dCons (dOp fEq (dVar 5) (dC (.str (Str.ofString "unions")))) dNil))) dNil)))) (sSeq (sSet 8 (dFn (fun ds R Er => ds.length = 4 ∧ f_turned_over ca ds R Er) (dCons (dVar 5) (dCons (dVar 4) (dCons (dOp fIx (dVar 7) (dC (.int 0))) (dCons (dOp fIx (dVar 7) (dC (.int 1))) dNil)))))) (sSeq (sIf (dTNot (dTru (dFn (fun ds R Er => ds.length = 2 ∧ f__law_same ds R Er) (dCons (dVar 8) (dCons (dFn (fun ds R Er => ds.length = 4 ∧ f__law_turned_heaps ds R Er) (dCons (dVar 5) (dCons (dOp fIx (dVar 7) (dC (.int 0))) (dCons (dOp fIx (dVar 7) (dC (.int 1))) (dCons (dOp fSub (dOp fMul (dC (.int 2)) (dVar 4)) (dC (.int 2))) dNil))))) dNil))))) (sRet (dC (.bool false))) sNil) (sSeq (sIf (dTNot (dTru (dFn (fun ds R Er => ds.length = 2 ∧ f__law_same ds R Er) (dCons (dFn (fun ds R Er => ds.length = 4 ∧ f_turned_over ca ds R Er) (dCons (dVar 6) (dCons (dVar 4) (dCons (dOp fIx (dVar 8) (dC (.int 0))) (dCons (dOp fIx (dVar 8) (dC (.int 1))) dNil))))) (dCons (dCall fTupOf (dCons (dVar 7) dNil)) dNil))))) (sRet (dC (.bool false))) sNil) (sIf (dTOr (dTNot (dTru (dFnT 2 (tabs ca) (fun ds R Er => ds.length + 1 = 2 ∧ f__law_refused_right ca ds R Er) (dCons (dVar 4) dNil)))) (dTAnd (dTOp fGt (dVar 4) (dC (.int 1))) (dTNot (dTru (dFnT 2 (tabs ca) (fun ds R Er => ds.length + 1 = 2 ∧ f__law_crowded_right ca ds R Er) (dCons (dVar 4) dNil)))))) (sRet (dC (.bool false))) sNil)))))))))) (sRet (dOp fEq (dFn (fun ds R Er => ds.length = 4 ∧ f_turned_over ca ds R Er) (dCons (dC (.str (Str.ofString "meets"))) (dCons (dC (.int 1)) (dCons (dTup dNil) (dCons (dTup dNil) dNil))))) (dTup (dCons (dTup dNil) (dCons (dTup dNil) dNil))))))
end DD

namespace DD
open PySem L2

theorem h_is_whole : ∀ ds R Er, ds.length = 1 → f_is_whole ds R Er → d_is_whole { nx := fun _ => R .none, rt := fun d _ => R d } (startD 1 ds) Er := by
  intro ds R Er hl h
  obtain ⟨v, rfl⟩ := len1 hl
  have h := h v rfl
  cases v <;> exact h
theorem h_is_from_to : ∀ ds R Er, ds.length = 3 → f_is_from_to ds R Er → d_is_from_to { nx := fun _ => R .none, rt := fun d _ => R d } (startD 3 ds) Er := by
  intro ds R Er hl ⟨v, l, h, e, hr⟩
  subst e
  show d_is_from_to _ [some (.dat v), some (.dat (.int l)), some (.dat (.int h))] Er
  simp only [d_is_from_to, true_and, startD, startS, startN, dVar, dVarF, dC, dOp, dTru, truD, dTOp, dIsN, dNotN, dTIsN, dTNotN, dTAnd, dTOr, dTNot, dAnd, dOr, dNot, dIf, dChain, dTChain, dSl, dNoPart, dPart, dNil, dCons, dTup, dLst, dCall, dFn, dFnS, sNil, sSeq, sRet, sDrop, sIf, gN, gNil', gCons', gT, sAsg, sSet, sPar, sAug, sSetO, dSeq, dSrc0, dSrc1, sSrc0, sSrc1, dIsi, fAdd, fSub, fMul, fMod, fDiv, fLt, fLe, fGt, fGe, dI2, dB2, dI2c, fIsB, fNotB, isNonD, fLen, fMax2, fMin2, fInt, fListOf, fTupOf, List.getElem?_cons_zero, List.getElem?_cons_succ, List.set_cons_zero, List.set_cons_succ, List.length_cons, List.length_nil, Bool.not_true, Bool.not_false]
  intro v' e
  cases e
  cases v <;> simp only [isW, isFT] at hr ⊢ <;> try exact hr
  rename_i i
  by_cases h1 : l ≤ i
  · simp only [h1, decide_true, true_and, startD, startS, startN, dVar, dVarF, dC, dOp, dTru, truD, dTOp, dIsN, dNotN, dTIsN, dTNotN, dTAnd, dTOr, dTNot, dAnd, dOr, dNot, dIf, dChain, dTChain, dSl, dNoPart, dPart, dNil, dCons, dTup, dLst, dCall, dFn, dFnS, sNil, sSeq, sRet, sDrop, sIf, gN, gNil', gCons', gT, sAsg, sSet, sPar, sAug, sSetO, dSeq, dSrc0, dSrc1, sSrc0, sSrc1, dIsi, fAdd, fSub, fMul, fMod, fDiv, fLt, fLe, fGt, fGe, dI2, dB2, dI2c, fIsB, fNotB, isNonD, fLen, fMax2, fMin2, fInt, fListOf, fTupOf, List.getElem?_cons_zero, List.getElem?_cons_succ, List.set_cons_zero, List.set_cons_succ, List.length_cons, List.length_nil, Bool.not_true, Bool.not_false]
    simpa only [h1, decide_true, Bool.true_and] using hr
  · simp only [h1, decide_false, true_and, startD, startS, startN, dVar, dVarF, dC, dOp, dTru, truD, dTOp, dIsN, dNotN, dTIsN, dTNotN, dTAnd, dTOr, dTNot, dAnd, dOr, dNot, dIf, dChain, dTChain, dSl, dNoPart, dPart, dNil, dCons, dTup, dLst, dCall, dFn, dFnS, sNil, sSeq, sRet, sDrop, sIf, gN, gNil', gCons', gT, sAsg, sSet, sPar, sAug, sSetO, dSeq, dSrc0, dSrc1, sSrc0, sSrc1, dIsi, fAdd, fSub, fMul, fMod, fDiv, fLt, fLe, fGt, fGe, dI2, dB2, dI2c, fIsB, fNotB, isNonD, fLen, fMax2, fMin2, fInt, fListOf, fTupOf, List.getElem?_cons_zero, List.getElem?_cons_succ, List.set_cons_zero, List.set_cons_succ, List.length_cons, List.length_nil, Bool.not_true, Bool.not_false]
    simpa only [h1, decide_false, Bool.false_and] using hr
theorem h_is_tuple_long : ∀ ds R Er, ds.length = 2 → f_is_tuple_long ds R Er → d_is_tuple_long { nx := fun _ => R .none, rt := fun d _ => R d } (startD 2 ds) Er := by
  intro ds R Er hl ⟨v, n, e, hr⟩
  subst e
  cases v <;> exact hr
theorem h_is_stretch_of : ∀ ds R Er, ds.length = 2 → f_is_stretch_of ds R Er → d_is_stretch_of { nx := fun _ => R .none, rt := fun d _ => R d } (startD 4 ds) Er := by
  intro ds R Er hl ⟨p, v, e, hr⟩
  subst e
  show d_is_stretch_of _ [some (.dat (.int p)), some (.dat v), none, none] Er
  simp only [d_is_stretch_of, true_and, startD, startS, startN, dVar, dVarF, dC, dOp, dTru, truD, dTOp, dIsN, dNotN, dTIsN, dTNotN, dTAnd, dTOr, dTNot, dAnd, dOr, dNot, dIf, dChain, dTChain, dSl, dNoPart, dPart, dNil, dCons, dTup, dLst, dCall, dFn, dFnS, sNil, sSeq, sRet, sDrop, sIf, gN, gNil', gCons', gT, sAsg, sSet, sPar, sAug, sSetO, dSeq, dSrc0, dSrc1, sSrc0, sSrc1, dIsi, fAdd, fSub, fMul, fMod, fDiv, fLt, fLe, fGt, fGe, dI2, dB2, dI2c, fIsB, fNotB, isNonD, fLen, fMax2, fMin2, fInt, fListOf, fTupOf, List.getElem?_cons_zero, List.getElem?_cons_succ, List.set_cons_zero, List.set_cons_succ, List.length_cons, List.length_nil, Bool.not_true, Bool.not_false]
  refine ⟨v, 2, rfl, ?_⟩
  cases v with
  | tuple xs =>
    match xs with
    | [a, b] =>
      refine ⟨rfl, b, 0, p - 1, rfl, ?_⟩
      cases b with
      | int j =>
        simp only [isStr] at hr
        by_cases hj : isFT (.int j) 0 (p - 1) = true
        · rw [hj]
          refine ⟨a, 0, j, rfl, ?_⟩
          simpa only [hj, Bool.true_and] using hr
        · rw [Bool.not_eq_true] at hj
          rw [hj]
          simpa only [hj, Bool.false_and] using hr
      | _ => exact hr
    | [] => exact hr
    | [_] => exact hr
    | a :: b :: c :: r =>
      have e : isTL (.tuple (a :: b :: c :: r)) 2 = false := by simp only [isTL, List.length_cons]; exact decide_eq_false (by omega)
      rw [e]
      exact hr
  | _ => exact hr
theorem h__law_source : ∀ ns j, ok__law_source ns j → d__law_source (startN 5 ns j) (fun ds => ∃ x y : Int, ds = [.int x, .int y] ∧ 0 ≤ x ∧ 0 ≤ y ∧ y < 2147483648) noEr := by
  intro ns j ⟨hb, h0, h3⟩
  show d__law_source [some (.scr ns), some (.dat (.int j)), none, none, none] _ _
  simp only [d__law_source, nSeq, sFor, dScr, true_and, startD, startS, startN, dVar, dVarF, dC, dOp, dTru, truD, dTOp, dIsN, dNotN, dTIsN, dTNotN, dTAnd, dTOr, dTNot, dAnd, dOr, dNot, dIf, dChain, dTChain, dSl, dNoPart, dPart, dNil, dCons, dTup, dLst, dCall, dFn, dFnS, sNil, sSeq, sRet, sDrop, sIf, gN, gNil', gCons', gT, sAsg, sSet, sPar, sAug, sSetO, dSeq, dSrc0, dSrc1, sSrc0, sSrc1, dIsi, fAdd, fSub, fMul, fMod, fDiv, fLt, fLe, fGt, fGe, dI2, dB2, dI2c, fIsB, fNotB, isNonD, fLen, fMax2, fMin2, fInt, fListOf, fTupOf, List.getElem?_cons_zero, List.getElem?_cons_succ, List.set_cons_zero, List.set_cons_succ, List.length_cons, List.length_nil, Bool.not_true, Bool.not_false]
  refine for_ind (fun r ρ => ∃ (acc : Int) (x : Option D), ρ = [some (.scr ns), some (.dat (.int j)), some (.dat (.int acc)), x, none] ∧ 0 ≤ acc ∧ acc ≤ 2147483563 ∧ ∀ d ∈ r, ∃ n : Int, d = .int n ∧ Builtin.Int.intBits n ≤ 1048576) ?_ ?_ _ _ ?_
  · intro ρ ⟨acc, x, e, a0, a1, _⟩
    subst e
    have p18 : fPow (.int 10) (.int 18) = some (.int 1000000000000000000) := by rfl
    simp only [dLenO, dScrIx, nRet, p18, true_and, startD, startS, startN, dVar, dVarF, dC, dOp, dTru, truD, dTOp, dIsN, dNotN, dTIsN, dTNotN, dTAnd, dTOr, dTNot, dAnd, dOr, dNot, dIf, dChain, dTChain, dSl, dNoPart, dPart, dNil, dCons, dTup, dLst, dCall, dFn, dFnS, sNil, sSeq, sRet, sDrop, sIf, gN, gNil', gCons', gT, sAsg, sSet, sPar, sAug, sSetO, dSeq, dSrc0, dSrc1, sSrc0, sSrc1, dIsi, fAdd, fSub, fMul, fMod, fDiv, fLt, fLe, fGt, fGe, dI2, dB2, dI2c, fIsB, fNotB, isNonD, fLen, fMax2, fMin2, fInt, fListOf, fTupOf, List.getElem?_cons_zero, List.getElem?_cons_succ, List.set_cons_zero, List.set_cons_succ, List.length_cons, List.length_nil, Bool.not_true, Bool.not_false]
    by_cases hj : j < (ns.length : Int)
    · simp only [decide_eq_true hj]
      obtain ⟨n, hn⟩ := at_of (xs := ns) (i := j) h0 (by omega)
      refine ⟨⟨ns, rfl⟩, n, atI_at h0 hn, ?_⟩
      by_cases h18 : (1000000000000000000 : Int) ≤ n
      · simp only [decide_eq_true h18]
        refine ⟨⟨ns, rfl⟩, n, atI_at h0 hn, ?_⟩
        exact ⟨by decide, _, _, rfl, by omega, a0, by omega⟩
      · simp only [decide_eq_false h18]
        exact ⟨by decide, _, _, rfl, by omega, a0, by omega⟩
    · simp only [decide_eq_false hj]
      exact ⟨by decide, _, _, rfl, by omega, a0, by omega⟩
  · intro d r ρ ⟨acc, x, e, a0, a1, hr⟩ ih
    subst e
    obtain ⟨n, rfl, hn⟩ := hr d List.mem_cons_self
    have hp : powOk (acc * 50021 + n) 3 = true := by
      unfold powOk
      have b : Builtin.Int.intBits (acc * 50021 + n) ≤ 1048577 := bits_add hn (by omega) (by have h48 : (2 : Nat) ^ 48 = 281474976710656 := (by decide); omega)
      simp only [Bool.and_eq_true, decide_eq_true_eq]
      exact ⟨by omega, by have h27 : (2 : Int) ^ 27 = 134217728 := (by decide); omega⟩
    simp only [forGo, fPow, mulOk_r acc (show (0 : Int) ≤ 50021 by omega) (by omega), hp, if_true, decide_eq_true (show (0 : Int) < 2147483563 by omega), true_and, startD, startS, startN, dVar, dVarF, dC, dOp, dTru, truD, dTOp, dIsN, dNotN, dTIsN, dTNotN, dTAnd, dTOr, dTNot, dAnd, dOr, dNot, dIf, dChain, dTChain, dSl, dNoPart, dPart, dNil, dCons, dTup, dLst, dCall, dFn, dFnS, sNil, sSeq, sRet, sDrop, sIf, gN, gNil', gCons', gT, sAsg, sSet, sPar, sAug, sSetO, dSeq, dSrc0, dSrc1, sSrc0, sSrc1, dIsi, fAdd, fSub, fMul, fMod, fDiv, fLt, fLe, fGt, fGe, dI2, dB2, dI2c, fIsB, fNotB, isNonD, fLen, fMax2, fMin2, fInt, fListOf, fTupOf, List.getElem?_cons_zero, List.getElem?_cons_succ, List.set_cons_zero, List.set_cons_succ, List.length_cons, List.length_nil, Bool.not_true, Bool.not_false]
    have m0 := Int.emod_nonneg ((acc * 50021 + n) ^ (3 : Int).toNat) (show (2147483563 : Int) ≠ 0 by omega)
    have m1 := Int.emod_lt_of_pos ((acc * 50021 + n) ^ (3 : Int).toNat) (show (0 : Int) < 2147483563 by omega)
    exact ih _ ⟨_, _, rfl, by omega, by omega, fun y hy => hr y (List.mem_cons_of_mem _ hy)⟩
  · exact ⟨101 + j, none, rfl, by omega, by omega, fun d hd => by
      obtain ⟨n, hn, rfl⟩ := List.mem_map.mp hd
      exact ⟨n, rfl, hb n hn⟩⟩
theorem h__law_draw : ∀ ds R Er, ds.length + 1 = 2 → f__law_draw ds R Er → d__law_draw { nx := fun _ => R .none, rt := fun d _ => R d } (startS 3 ds) Er := by
  intro ds R Er hl ⟨n, e, h0, h1, hr⟩
  subst e
  show d__law_draw _ [some .src, some (.dat (.int n)), none] Er
  have md : ∀ i : Int, fMod (.int i) (.int n) = some (.int (i % n)) := fun i => by simp only [fMod, dI2c, decide_eq_true h0, if_true]
  have dv : ∀ i : Int, fDiv (.int i) (.int n) = some (.int (i / n)) := fun i => by simp only [fDiv, dI2c, decide_eq_true h0, decide_eq_true h1, Bool.and_true, if_true]
  refine ⟨rfl, fun m hm => ?_⟩
  simp only [fGe, dB2, true_and, startD, startS, startN, dVar, dVarF, dC, dOp, dTru, truD, dTOp, dIsN, dNotN, dTIsN, dTNotN, dTAnd, dTOr, dTNot, dAnd, dOr, dNot, dIf, dChain, dTChain, dSl, dNoPart, dPart, dNil, dCons, dTup, dLst, dCall, dFn, dFnS, sNil, sSeq, sRet, sDrop, sIf, gN, gNil', gCons', gT, sAsg, sSet, sPar, sAug, sSetO, dSeq, dSrc0, dSrc1, sSrc0, sSrc1, dIsi, fAdd, fSub, fMul, fMod, fDiv, fLt, fLe, fGt, fGe, dI2, dB2, dI2c, fIsB, fNotB, isNonD, fLen, fMax2, fMin2, fInt, fListOf, fTupOf, List.getElem?_cons_zero, List.getElem?_cons_succ, List.set_cons_zero, List.set_cons_succ, List.length_cons, List.length_nil, Bool.not_true, Bool.not_false]
  by_cases h : n ≤ m
  · simp only [decide_eq_true h]
    intro m2 hm2
    simp only [decide_eq_true h0, decide_eq_true h1, Bool.and_self, if_true]
    intro m3 hm3
    exact ⟨Int.ediv_nonneg hm3 (by omega), hr _ (Int.emod_nonneg _ (by omega)) (Int.emod_lt_of_pos _ h0)⟩
  · simp only [decide_eq_false h]
    intro m2 hm2 hm3
    simp only [mulOk_r m2 (show (0 : Int) ≤ 69621 by omega) (by omega), if_true, decide_eq_true (show (0 : Int) < 2147483647 by omega)]
    refine ⟨Int.emod_nonneg _ (by omega), by have := Int.emod_lt_of_pos (m2 * 69621 + 7129) (show (0 : Int) < 2147483647 by omega); omega, ?_⟩
    intro m4 h4 h5
    have pw : powOk m4 5 = true := by
      unfold powOk
      have b : Builtin.Int.intBits m4 ≤ 31 := bits_le (by have : (2 : Nat) ^ 31 = 2147483648 := by decide
                                                          omega)
      simp only [Bool.and_eq_true, decide_eq_true_eq]
      exact ⟨by omega, by have : (2 : Int) ^ 27 = 134217728 := by decide
                          omega⟩
    simp only [fPow, dI2c, pw, if_true, decide_eq_true h0, decide_eq_true (show (0 : Int) < 1000000007 by omega), decide_eq_true (show (0 : Int) < 41 by omega), decide_eq_true (show (41 : Int) < 1073741824 by omega), Bool.and_self]
    exact hr _ (Int.emod_nonneg _ (by omega)) (Int.emod_lt_of_pos _ h0)
theorem h__law_pick : ∀ ds R Er, ds.length + 1 = 2 → f__law_pick ds R Er → d__law_pick { nx := fun _ => R .none, rt := fun d _ => R d } (startS 2 ds) Er := by
  intro ds R Er hl ⟨xs, e, hne, hlen, hr⟩
  have key : ∀ k : Int, 0 ≤ k → k < xs.length → ∃ x, atI xs k = some x ∧ R x := fun k h0 h1 => by
    obtain ⟨x, hx⟩ := at_of (xs := xs) h0 (by omega)
    exact ⟨x, atI_at h0 hx, hr x (List.mem_of_getElem? hx)⟩
  have hpos : 0 < (xs.length : Int) := by
    have := List.length_pos_iff.mpr hne
    omega
  rcases e with e | e
  · subst e
    show d__law_pick _ [some .src, some (.dat (.list xs))] Er
    simp only [d__law_pick, true_and, startD, startS, startN, dVar, dVarF, dC, dOp, dTru, truD, dTOp, dIsN, dNotN, dTIsN, dTNotN, dTAnd, dTOr, dTNot, dAnd, dOr, dNot, dIf, dChain, dTChain, dSl, dNoPart, dPart, dNil, dCons, dTup, dLst, dCall, dFn, dFnS, sNil, sSeq, sRet, sDrop, sIf, gN, gNil', gCons', gT, sAsg, sSet, sPar, sAug, sSetO, dSeq, dSrc0, dSrc1, sSrc0, sSrc1, dIsi, fAdd, fSub, fMul, fMod, fDiv, fLt, fLe, fGt, fGe, dI2, dB2, dI2c, fIsB, fNotB, isNonD, fLen, fMax2, fMin2, fInt, fListOf, fTupOf, List.getElem?_cons_zero, List.getElem?_cons_succ, List.set_cons_zero, List.set_cons_succ, List.length_cons, List.length_nil, Bool.not_true, Bool.not_false]
    refine ⟨_, rfl, hpos, by omega, fun k h0 h1 => ?_⟩
    obtain ⟨x, e, h⟩ := key k h0 h1
    simp only [fIx, e]
    exact h
  · subst e
    show d__law_pick _ [some .src, some (.dat (.tuple xs))] Er
    simp only [d__law_pick, true_and, startD, startS, startN, dVar, dVarF, dC, dOp, dTru, truD, dTOp, dIsN, dNotN, dTIsN, dTNotN, dTAnd, dTOr, dTNot, dAnd, dOr, dNot, dIf, dChain, dTChain, dSl, dNoPart, dPart, dNil, dCons, dTup, dLst, dCall, dFn, dFnS, sNil, sSeq, sRet, sDrop, sIf, gN, gNil', gCons', gT, sAsg, sSet, sPar, sAug, sSetO, dSeq, dSrc0, dSrc1, sSrc0, sSrc1, dIsi, fAdd, fSub, fMul, fMod, fDiv, fLt, fLe, fGt, fGe, dI2, dB2, dI2c, fIsB, fNotB, isNonD, fLen, fMax2, fMin2, fInt, fListOf, fTupOf, List.getElem?_cons_zero, List.getElem?_cons_succ, List.set_cons_zero, List.set_cons_succ, List.length_cons, List.length_nil, Bool.not_true, Bool.not_false]
    refine ⟨_, rfl, hpos, by omega, fun k h0 h1 => ?_⟩
    obtain ⟨x, e, h⟩ := key k h0 h1
    simp only [fIx, e]
    exact h
end DD

namespace DD
open PySem L2

theorem h_is_odd : ∀ ds R Er, ds.length = 1 → f_is_odd ds R Er → d_is_odd { nx := fun _ => R .none, rt := fun d _ => R d } (startD 1 ds) Er := by
  intro ds R Er hl ⟨a, e, h1, h2, hr⟩
  subst e
  show d_is_odd _ [some (.dat (.int a))] Er
  simp only [d_is_odd, wipeD, List.getElem?_cons_zero, List.getElem?_cons_succ, List.set_cons_succ, List.set_cons_zero, List.length_cons, List.length_nil, List.cons_append, List.nil_append, gT, gCons', gN, gNil', sNil, sSeq, sRet, sDrop, sIf, sAsg, sSet, sPar, sFor, dOp, dCall, dCons, dNil, dVar, dVarF, dC, dTup, dLst, dLc, dSeq, dFn, dFnO, dTOp, dTru, truD, dTAnd, dTOr, dTNot, dAnd, dOr, dNot, dIf, leBig, ltBig, Nat.reduceAdd, Nat.reduceLeDiff, if_true, Bool.not_true, Bool.not_false, true_and, iDiv (show (0 : Int) < 2 by decide) (show (2 : Int) < 1073741824 by decide), iMul (show (0 : Int) ≤ 2 by decide) (show (2 : Int) < 1000000 by decide), iNe]
  have e : (!decide (a / 2 * 2 = a)) = decide (a % 2 = 1) := by
    by_cases h : a % 2 = 1
    · rw [decide_eq_true h, decide_eq_false (show ¬ a / 2 * 2 = a by omega)]; rfl
    · rw [decide_eq_false h, decide_eq_true (show a / 2 * 2 = a by omega)]; rfl
  simpa only [e] using hr
theorem h_is_between : ∀ ds R Er, ds.length = 2 → f_is_between ds R Er → d_is_between { nx := fun _ => R .none, rt := fun d _ => R d } (startD 2 ds) Er := by
  intro ds R Er hl ⟨a, b, e, h1, h2, hr⟩
  subst e
  show d_is_between _ [some (.dat (.int a)), some (.dat (.int b))] Er
  simp only [d_is_between, wipeD, List.getElem?_cons_zero, List.getElem?_cons_succ, List.set_cons_succ, List.set_cons_zero, List.length_cons, List.length_nil, List.cons_append, List.nil_append, gT, gCons', gN, gNil', sNil, sSeq, sRet, sDrop, sIf, sAsg, sSet, sPar, sFor, dOp, dCall, dCons, dNil, dVar, dVarF, dC, dTup, dLst, dLc, dSeq, dFn, dFnO, dTOp, dTru, truD, dTAnd, dTOr, dTNot, dAnd, dOr, dNot, dIf, leBig, ltBig, Nat.reduceAdd, Nat.reduceLeDiff, if_true, Bool.not_true, Bool.not_false, true_and, iEq]
  by_cases h : a = b
  · simp only [h, decide_true, Bool.true_and] at hr ⊢
    exact ⟨b, rfl, by omega, by omega, hr⟩
  · simp only [h, decide_false, Bool.false_and] at hr ⊢
    exact hr
theorem h_turned_begin : ∀ ds R Er, ds.length = 1 → f_turned_begin ds R Er → d_turned_begin { nx := fun _ => R .none, rt := fun d _ => R d } (startD 1 ds) Er := by
  intro ds R Er hl ⟨a, e, h1, h2, hr⟩
  subst e
  show d_turned_begin _ [some (.dat (.int a))] Er
  simp only [d_turned_begin, wipeD, List.getElem?_cons_zero, List.getElem?_cons_succ, List.set_cons_succ, List.set_cons_zero, List.length_cons, List.length_nil, List.cons_append, List.nil_append, gT, gCons', gN, gNil', sNil, sSeq, sRet, sDrop, sIf, sAsg, sSet, sPar, sFor, dOp, dCall, dCons, dNil, dVar, dVarF, dC, dTup, dLst, dLc, dSeq, dFn, dFnO, dTOp, dTru, truD, dTAnd, dTOr, dTNot, dAnd, dOr, dNot, dIf, leBig, ltBig, Nat.reduceAdd, Nat.reduceLeDiff, if_true, Bool.not_true, Bool.not_false, true_and, iEq]
  unfold tb at hr
  by_cases h : a = 0
  · simp only [h, decide_true, if_true] at hr ⊢
    exact hr
  · simp only [h, decide_false, if_false] at hr ⊢
    refine ⟨a, rfl, by omega, by omega, ?_⟩
    by_cases o : a % 2 = 1
    · simp only [o, decide_true, if_true, wipeD, List.getElem?_cons_zero, List.getElem?_cons_succ, List.set_cons_succ, List.set_cons_zero, List.length_cons, List.length_nil, List.cons_append, List.nil_append, gT, gCons', gN, gNil', sNil, sSeq, sRet, sDrop, sIf, sAsg, sSet, sPar, sFor, dOp, dCall, dCons, dNil, dVar, dVarF, dC, dTup, dLst, dLc, dSeq, dFn, dFnO, dTOp, dTru, truD, dTAnd, dTOr, dTNot, dAnd, dOr, dNot, dIf, leBig, ltBig, Nat.reduceAdd, Nat.reduceLeDiff, if_true, Bool.not_true, Bool.not_false, true_and, iAdd] at hr ⊢
      exact hr
    · simp only [o, decide_false, if_false, wipeD, List.getElem?_cons_zero, List.getElem?_cons_succ, List.set_cons_succ, List.set_cons_zero, List.length_cons, List.length_nil, List.cons_append, List.nil_append, gT, gCons', gN, gNil', sNil, sSeq, sRet, sDrop, sIf, sAsg, sSet, sPar, sFor, dOp, dCall, dCons, dNil, dVar, dVarF, dC, dTup, dLst, dLc, dSeq, dFn, dFnO, dTOp, dTru, truD, dTAnd, dTOr, dTNot, dAnd, dOr, dNot, dIf, leBig, ltBig, Nat.reduceAdd, Nat.reduceLeDiff, if_true, Bool.not_true, Bool.not_false, true_and, iSub] at hr ⊢
      exact hr
theorem h_turned_end : ∀ ds R Er, ds.length = 2 → f_turned_end ds R Er → d_turned_end { nx := fun _ => R .none, rt := fun d _ => R d } (startD 2 ds) Er := by
  intro ds R Er hl ⟨b, l, e, h1, h2, hr⟩
  subst e
  show d_turned_end _ [some (.dat (.int b)), some (.dat (.int l))] Er
  simp only [d_turned_end, wipeD, List.getElem?_cons_zero, List.getElem?_cons_succ, List.set_cons_succ, List.set_cons_zero, List.length_cons, List.length_nil, List.cons_append, List.nil_append, gT, gCons', gN, gNil', sNil, sSeq, sRet, sDrop, sIf, sAsg, sSet, sPar, sFor, dOp, dCall, dCons, dNil, dVar, dVarF, dC, dTup, dLst, dLc, dSeq, dFn, dFnO, dTOp, dTru, truD, dTAnd, dTOr, dTNot, dAnd, dOr, dNot, dIf, leBig, ltBig, Nat.reduceAdd, Nat.reduceLeDiff, if_true, Bool.not_true, Bool.not_false, true_and, iEq]
  unfold te at hr
  by_cases h : b = l
  · simp only [h, decide_true, if_true] at hr ⊢
    exact hr
  · simp only [h, decide_false, if_false] at hr ⊢
    refine ⟨b, rfl, by omega, by omega, ?_⟩
    by_cases o : b % 2 = 1
    · simp only [o, decide_true, if_true, wipeD, List.getElem?_cons_zero, List.getElem?_cons_succ, List.set_cons_succ, List.set_cons_zero, List.length_cons, List.length_nil, List.cons_append, List.nil_append, gT, gCons', gN, gNil', sNil, sSeq, sRet, sDrop, sIf, sAsg, sSet, sPar, sFor, dOp, dCall, dCons, dNil, dVar, dVarF, dC, dTup, dLst, dLc, dSeq, dFn, dFnO, dTOp, dTru, truD, dTAnd, dTOr, dTNot, dAnd, dOr, dNot, dIf, leBig, ltBig, Nat.reduceAdd, Nat.reduceLeDiff, if_true, Bool.not_true, Bool.not_false, true_and, iSub] at hr ⊢
      exact hr
    · simp only [o, decide_false, if_false, wipeD, List.getElem?_cons_zero, List.getElem?_cons_succ, List.set_cons_succ, List.set_cons_zero, List.length_cons, List.length_nil, List.cons_append, List.nil_append, gT, gCons', gN, gNil', sNil, sSeq, sRet, sDrop, sIf, sAsg, sSet, sPar, sFor, dOp, dCall, dCons, dNil, dVar, dVarF, dC, dTup, dLst, dLc, dSeq, dFn, dFnO, dTOp, dTru, truD, dTAnd, dTOr, dTNot, dAnd, dOr, dNot, dIf, leBig, ltBig, Nat.reduceAdd, Nat.reduceLeDiff, if_true, Bool.not_true, Bool.not_false, true_and, iAdd] at hr ⊢
      exact hr
end DD

namespace DD
open PySem L2

theorem h_piles_between : ∀ ds R Er, ds.length = 1 → f_piles_between ds R Er → d_piles_between { nx := fun _ => R .none, rt := fun d _ => R d } (startD 2 ds) Er := by
  intro ds R Er hl ⟨h, e, hn, hp, hr⟩
  subst e
  show d_piles_between _ [some (.dat (heapD h)), none] Er
  simp only [d_piles_between, wipeD, List.getElem?_cons_zero, List.getElem?_cons_succ, List.set_cons_succ, List.set_cons_zero, List.length_cons, List.length_nil, List.cons_append, List.nil_append, gT, gCons', gN, gNil', sNil, sSeq, sRet, sDrop, sIf, sAsg, sSet, sPar, sFor, dOp, dCall, dCons, dNil, dVar, dVarF, dC, dTup, dLst, dLc, dSeq, dFn, dFnO, dTOp, dTru, truD, dTAnd, dTOr, dTNot, dAnd, dOr, dNot, dIf, leBig, ltBig, Nat.reduceAdd, Nat.reduceLeDiff, if_true, Bool.not_true, Bool.not_false, true_and]
  refine lc_all dP isLone dP h [] (fun x hx Kt Kf k1 k2 => ?_) (by simp [big]; omega) (by simpa only [List.nil_append] using hr)
  obtain ⟨a1, a2, a3⟩ := hp x hx
  simp only [wipeD, List.getElem?_cons_zero, List.getElem?_cons_succ, List.set_cons_succ, List.set_cons_zero, List.length_cons, List.length_nil, List.cons_append, List.nil_append, gT, gCons', gN, gNil', sNil, sSeq, sRet, sDrop, sIf, sAsg, sSet, sPar, sFor, dOp, dCall, dCons, dNil, dVar, dVarF, dC, dTup, dLst, dLc, dSeq, dFn, dFnO, dTOp, dTru, truD, dTAnd, dTOr, dTNot, dAnd, dOr, dNot, dIf, leBig, ltBig, Nat.reduceAdd, Nat.reduceLeDiff, if_true, Bool.not_true, Bool.not_false, true_and, dP, fIx_t0, fIx_t1]
  refine ⟨x.1, x.2.1, rfl, by omega, by omega, ?_⟩
  cases z : isLone x with
  | true =>
    have z2 : (decide (x.1 = x.2.1) && decide (x.1 % 2 = 1)) = true := z
    simp only [z2, wipeD, List.getElem?_cons_zero, List.getElem?_cons_succ, List.set_cons_succ, List.set_cons_zero, List.length_cons, List.length_nil, List.cons_append, List.nil_append, gT, gCons', gN, gNil', sNil, sSeq, sRet, sDrop, sIf, sAsg, sSet, sPar, sFor, dOp, dCall, dCons, dNil, dVar, dVarF, dC, dTup, dLst, dLc, dSeq, dFn, dFnO, dTOp, dTru, truD, dTAnd, dTOr, dTNot, dAnd, dOr, dNot, dIf, leBig, ltBig, Nat.reduceAdd, Nat.reduceLeDiff, if_true, Bool.not_true, Bool.not_false, true_and]
    exact k1 z
  | false =>
    have z2 : (decide (x.1 = x.2.1) && decide (x.1 % 2 = 1)) = false := z
    simp only [z2, wipeD, List.getElem?_cons_zero, List.getElem?_cons_succ, List.set_cons_succ, List.set_cons_zero, List.length_cons, List.length_nil, List.cons_append, List.nil_append, gT, gCons', gN, gNil', sNil, sSeq, sRet, sDrop, sIf, sAsg, sSet, sPar, sFor, dOp, dCall, dCons, dNil, dVar, dVarF, dC, dTup, dLst, dLc, dSeq, dFn, dFnO, dTOp, dTru, truD, dTAnd, dTOr, dTNot, dAnd, dOr, dNot, dIf, leBig, ltBig, Nat.reduceAdd, Nat.reduceLeDiff, if_true, Bool.not_true, Bool.not_false, true_and]
    exact k2 z
theorem h_turned_piles : ∀ ds R Er, ds.length = 2 → f_turned_piles ds R Er → d_turned_piles { nx := fun _ => R .none, rt := fun d _ => R d } (startD 7 ds) Er := by
  intro ds R Er hl ⟨h, l, e, hn, hp, hr⟩
  subst e
  show d_turned_piles _ [some (.dat (heapD h)), some (.dat (.int l)), none, none, none, none, none] Er
  simp only [d_turned_piles, wipeD, List.getElem?_cons_zero, List.getElem?_cons_succ, List.set_cons_succ, List.set_cons_zero, List.length_cons, List.length_nil, List.cons_append, List.nil_append, gT, gCons', gN, gNil', sNil, sSeq, sRet, sDrop, sIf, sAsg, sSet, sPar, sFor, dOp, dCall, dCons, dNil, dVar, dVarF, dC, dTup, dLst, dLc, dSeq, dFn, dFnO, dTOp, dTru, truD, dTAnd, dTOr, dTNot, dAnd, dOr, dNot, dIf, leBig, ltBig, Nat.reduceAdd, Nat.reduceLeDiff, if_true, Bool.not_true, Bool.not_false, true_and]
  refine lc_all dP (fun x => !isLone x) dP h [] (fun x hx Kt Kf k1 k2 => ?_) (by simp [big]; omega) ?_
  · obtain ⟨a1, a2, a3⟩ := hp x hx
    simp only [wipeD, List.getElem?_cons_zero, List.getElem?_cons_succ, List.set_cons_succ, List.set_cons_zero, List.length_cons, List.length_nil, List.cons_append, List.nil_append, gT, gCons', gN, gNil', sNil, sSeq, sRet, sDrop, sIf, sAsg, sSet, sPar, sFor, dOp, dCall, dCons, dNil, dVar, dVarF, dC, dTup, dLst, dLc, dSeq, dFn, dFnO, dTOp, dTru, truD, dTAnd, dTOr, dTNot, dAnd, dOr, dNot, dIf, leBig, ltBig, Nat.reduceAdd, Nat.reduceLeDiff, if_true, Bool.not_true, Bool.not_false, true_and, dP, fIx_t0, fIx_t1]
    refine ⟨x.1, x.2.1, rfl, by omega, by omega, ?_⟩
    cases z : isLone x with
    | true =>
      have z2 : (decide (x.1 = x.2.1) && decide (x.1 % 2 = 1)) = true := z
      simp only [z2, wipeD, List.getElem?_cons_zero, List.getElem?_cons_succ, List.set_cons_succ, List.set_cons_zero, List.length_cons, List.length_nil, List.cons_append, List.nil_append, gT, gCons', gN, gNil', sNil, sSeq, sRet, sDrop, sIf, sAsg, sSet, sPar, sFor, dOp, dCall, dCons, dNil, dVar, dVarF, dC, dTup, dLst, dLc, dSeq, dFn, dFnO, dTOp, dTru, truD, dTAnd, dTOr, dTNot, dAnd, dOr, dNot, dIf, leBig, ltBig, Nat.reduceAdd, Nat.reduceLeDiff, if_true, Bool.not_true, Bool.not_false, true_and]
      exact k2 (by simp [z])
    | false =>
      have z2 : (decide (x.1 = x.2.1) && decide (x.1 % 2 = 1)) = false := z
      simp only [z2, wipeD, List.getElem?_cons_zero, List.getElem?_cons_succ, List.set_cons_succ, List.set_cons_zero, List.length_cons, List.length_nil, List.cons_append, List.nil_append, gT, gCons', gN, gNil', sNil, sSeq, sRet, sDrop, sIf, sAsg, sSet, sPar, sFor, dOp, dCall, dCons, dNil, dVar, dVarF, dC, dTup, dLst, dLc, dSeq, dFn, dFnO, dTOp, dTru, truD, dTAnd, dTOr, dTNot, dAnd, dOr, dNot, dIf, leBig, ltBig, Nat.reduceAdd, Nat.reduceLeDiff, if_true, Bool.not_true, Bool.not_false, true_and]
      exact k1 (by simp [z])
  · simp only [List.nil_append, wipeD, List.getElem?_cons_zero, List.getElem?_cons_succ, List.set_cons_succ, List.set_cons_zero, List.length_cons, List.length_nil, List.cons_append, List.nil_append, gT, gCons', gN, gNil', sNil, sSeq, sRet, sDrop, sIf, sAsg, sSet, sPar, sFor, dOp, dCall, dCons, dNil, dVar, dVarF, dC, dTup, dLst, dLc, dSeq, dFn, dFnO, dTOp, dTru, truD, dTAnd, dTOr, dTNot, dAnd, dOr, dNot, dIf, leBig, ltBig, Nat.reduceAdd, Nat.reduceLeDiff, if_true, Bool.not_true, Bool.not_false, true_and]
    refine lc_all dP (fun _ => true) (fun x => dP (turnP l x)) _ [] (fun x hx Kt Kf k1 k2 => ?_) (by have := List.length_filter_le (fun x => !isLone x) h; simp [big]; omega) ?_
    · obtain ⟨a1, a2, a3⟩ := hp x (List.mem_filter.mp hx).1
      simp only [wipeD, List.getElem?_cons_zero, List.getElem?_cons_succ, List.set_cons_succ, List.set_cons_zero, List.length_cons, List.length_nil, List.cons_append, List.nil_append, gT, gCons', gN, gNil', sNil, sSeq, sRet, sDrop, sIf, sAsg, sSet, sPar, sFor, dOp, dCall, dCons, dNil, dVar, dVarF, dC, dTup, dLst, dLc, dSeq, dFn, dFnO, dTOp, dTru, truD, dTAnd, dTOr, dTNot, dAnd, dOr, dNot, dIf, leBig, ltBig, Nat.reduceAdd, Nat.reduceLeDiff, if_true, Bool.not_true, Bool.not_false, true_and, dP, dYes]
      refine ⟨x.1, rfl, by omega, by omega, x.2.1, l, rfl, by omega, by omega, ?_⟩
      exact k1 rfl
    · rw [List.map_map] at hr
      rw [List.filter_eq_self.mpr (fun _ _ => rfl), List.nil_append]
      exact hr
end DD

namespace DD
open PySem L2

theorem h_check_places (ca : CA) : ∀ ds R Er, ds.length = 1 → f_check_places ca ds R Er → d_check_places ca { nx := fun _ => R .none, rt := fun d _ => R d } (startD 1 ds) Er := by
  intro ds R Er hl ⟨p, e, h1, h2, hr⟩
  subst e
  show d_check_places ca _ [some (.dat (.int p))] Er
  simp only [d_check_places, wipeD, List.getElem?_cons_zero, List.getElem?_cons_succ, List.set_cons_succ, List.set_cons_zero, List.length_cons, List.length_nil, List.cons_append, List.nil_append, gT, gCons', gN, gNil', sNil, sSeq, sRet, sDrop, sIf, sAsg, sSet, sPar, sFor, dOp, dCall, dCons, dNil, dVar, dVarF, dC, dTup, dLst, dLc, dSeq, dFn, dFnO, dTOp, dTru, truD, dTAnd, dTOr, dTNot, dAnd, dOr, dNot, dIf, leBig, ltBig, Nat.reduceAdd, Nat.reduceLeDiff, if_true, Bool.not_true, Bool.not_false, true_and]
  refine ⟨.int p, 1, 17, rfl, ?_⟩
  have e : isFT (.int p) 1 17 = true := by simp [isFT, h1, h2]
  simp only [e, wipeD, List.getElem?_cons_zero, List.getElem?_cons_succ, List.set_cons_succ, List.set_cons_zero, List.length_cons, List.length_nil, List.cons_append, List.nil_append, gT, gCons', gN, gNil', sNil, sSeq, sRet, sDrop, sIf, sAsg, sSet, sPar, sFor, dOp, dCall, dCons, dNil, dVar, dVarF, dC, dTup, dLst, dLc, dSeq, dFn, dFnO, dTOp, dTru, truD, dTAnd, dTOr, dTNot, dAnd, dOr, dNot, dIf, leBig, ltBig, Nat.reduceAdd, Nat.reduceLeDiff, if_true, Bool.not_true, Bool.not_false, true_and]
  exact hr
theorem h_covered : ∀ ds R Er, ds.length = 2 → f_covered ds R Er → d_covered { nx := fun _ => R .none, rt := fun d _ => R d } (startD 6 ds) Er := by
  intro ds R Er hl ⟨p, h, e, h1, h2, hn, hr⟩
  subst e
  show d_covered _ [some (.dat (.int p)), some (.dat (heapD h)), none, none, none, none] Er
  simp only [d_covered, wipeD, List.getElem?_cons_zero, List.getElem?_cons_succ, List.set_cons_succ, List.set_cons_zero, List.length_cons, List.length_nil, List.cons_append, List.nil_append, gT, gCons', gN, gNil', sNil, sSeq, sRet, sDrop, sIf, sAsg, sSet, sPar, sFor, dOp, dCall, dCons, dNil, dVar, dVarF, dC, dTup, dLst, dLc, dSeq, dFn, dFnO, dTOp, dTru, truD, dTAnd, dTOr, dTNot, dAnd, dOr, dNot, dIf, leBig, ltBig, Nat.reduceAdd, Nat.reduceLeDiff, if_true, Bool.not_true, Bool.not_false, true_and, dRange1]
  refine ⟨by omega, by omega, ?_⟩
  rw [rangeD_nat]
  refine lc_all natD (fun _ => true) (fun k => .int (covP h k)) (List.range p.toNat) [] (fun k hk Kt Kf k1 k2 => ?_) (by rw [List.length_range]; simp [big]; omega) (by rw [List.filter_eq_self.mpr (fun _ _ => rfl), List.nil_append]; exact hr)
  simp only [wipeD, List.getElem?_cons_zero, List.getElem?_cons_succ, List.set_cons_succ, List.set_cons_zero, List.length_cons, List.length_nil, List.cons_append, List.nil_append, gT, gCons', gN, gNil', sNil, sSeq, sRet, sDrop, sIf, sAsg, sSet, sPar, sFor, dOp, dCall, dCons, dNil, dVar, dVarF, dC, dTup, dLst, dLc, dSeq, dFn, dFnO, dTOp, dTru, truD, dTAnd, dTOr, dTNot, dAnd, dOr, dNot, dIf, leBig, ltBig, Nat.reduceAdd, Nat.reduceLeDiff, if_true, Bool.not_true, Bool.not_false, true_and, natD, dYes]
  refine lc_all dP (fun x => decide (x.1 ≤ (k : Int)) && decide ((k : Int) ≤ x.2.1)) (fun x => .int x.2.2) h [] (fun x hx Kt2 Kf2 q1 q2 => ?_) (by simp [big]; omega) ?_
  · simp only [wipeD, List.getElem?_cons_zero, List.getElem?_cons_succ, List.set_cons_succ, List.set_cons_zero, List.length_cons, List.length_nil, List.cons_append, List.nil_append, gT, gCons', gN, gNil', sNil, sSeq, sRet, sDrop, sIf, sAsg, sSet, sPar, sFor, dOp, dCall, dCons, dNil, dVar, dVarF, dC, dTup, dLst, dLc, dSeq, dFn, dFnO, dTOp, dTru, truD, dTAnd, dTOr, dTNot, dAnd, dOr, dNot, dIf, leBig, ltBig, Nat.reduceAdd, Nat.reduceLeDiff, if_true, Bool.not_true, Bool.not_false, true_and, dP, dTChain, iLe]
    by_cases z1 : x.1 ≤ (k : Int)
    · by_cases z2 : (k : Int) ≤ x.2.1
      · simp only [z1, z2, decide_true, wipeD, List.getElem?_cons_zero, List.getElem?_cons_succ, List.set_cons_succ, List.set_cons_zero, List.length_cons, List.length_nil, List.cons_append, List.nil_append, gT, gCons', gN, gNil', sNil, sSeq, sRet, sDrop, sIf, sAsg, sSet, sPar, sFor, dOp, dCall, dCons, dNil, dVar, dVarF, dC, dTup, dLst, dLc, dSeq, dFn, dFnO, dTOp, dTru, truD, dTAnd, dTOr, dTNot, dAnd, dOr, dNot, dIf, leBig, ltBig, Nat.reduceAdd, Nat.reduceLeDiff, if_true, Bool.not_true, Bool.not_false, true_and]
        exact q1 (by simp [z1, z2])
      · simp only [z1, z2, decide_true, decide_false, wipeD, List.getElem?_cons_zero, List.getElem?_cons_succ, List.set_cons_succ, List.set_cons_zero, List.length_cons, List.length_nil, List.cons_append, List.nil_append, gT, gCons', gN, gNil', sNil, sSeq, sRet, sDrop, sIf, sAsg, sSet, sPar, sFor, dOp, dCall, dCons, dNil, dVar, dVarF, dC, dTup, dLst, dLc, dSeq, dFn, dFnO, dTOp, dTru, truD, dTAnd, dTOr, dTNot, dAnd, dOr, dNot, dIf, leBig, ltBig, Nat.reduceAdd, Nat.reduceLeDiff, if_true, Bool.not_true, Bool.not_false, true_and]
        exact q2 (by simp [z2])
    · simp only [z1, decide_false, wipeD, List.getElem?_cons_zero, List.getElem?_cons_succ, List.set_cons_succ, List.set_cons_zero, List.length_cons, List.length_nil, List.cons_append, List.nil_append, gT, gCons', gN, gNil', sNil, sSeq, sRet, sDrop, sIf, sAsg, sSet, sPar, sFor, dOp, dCall, dCons, dNil, dVar, dVarF, dC, dTup, dLst, dLc, dSeq, dFn, dFnO, dTOp, dTru, truD, dTAnd, dTOr, dTNot, dAnd, dOr, dNot, dIf, leBig, ltBig, Nat.reduceAdd, Nat.reduceLeDiff, if_true, Bool.not_true, Bool.not_false, true_and]
      exact q2 (by simp [z1])
  · have e : ((h.filter fun x => decide (x.1 ≤ (k : Int)) && decide ((k : Int) ≤ x.2.1)).map fun x => PyData.int x.2.2) = (((h.filter fun x => decide (x.1 ≤ (k : Int)) && decide ((k : Int) ≤ x.2.1)).map (·.2.2)).map PyData.int) := by rw [List.map_map]; rfl
    simp only [List.nil_append, e, fSum, intsD_map, Option.map_some, wipeD, List.getElem?_cons_zero, List.getElem?_cons_succ, List.set_cons_succ, List.set_cons_zero, List.length_cons, List.length_nil, List.cons_append, List.nil_append, gT, gCons', gN, gNil', sNil, sSeq, sRet, sDrop, sIf, sAsg, sSet, sPar, sFor, dOp, dCall, dCons, dNil, dVar, dVarF, dC, dTup, dLst, dLc, dSeq, dFn, dFnO, dTOp, dTru, truD, dTAnd, dTOr, dTNot, dAnd, dOr, dNot, dIf, leBig, ltBig, Nat.reduceAdd, Nat.reduceLeDiff, if_true, Bool.not_true, Bool.not_false, true_and]
    exact k1 rfl
end DD

namespace DD
open PySem L2

theorem isPile_dP {p : Int} {v : PyData} (h : isPile p v = true) : v = dP (pileOf v) ∧ 0 ≤ (pileOf v).1 ∧ (pileOf v).1 ≤ (pileOf v).2.1 ∧ (pileOf v).2.1 ≤ p - 1 ∧ 1 ≤ (pileOf v).2.2 ∧ (pileOf v).2.2 ≤ 8 := by
  unfold isPile at h
  split at h
  · rename_i a b c
    simp only [Bool.and_eq_true] at h
    obtain ⟨h1, h2⟩ := h
    cases c with
    | int k =>
      simp only [isStr] at h1
      cases b with
      | int j =>
        simp only [Bool.and_eq_true] at h1
        cases a with
        | int i =>
          simp only [isFT, Bool.and_eq_true, decide_eq_true_eq] at h1 h2
          exact ⟨rfl, h1.2.1, h1.2.2, h1.1.2, h2.1, h2.2⟩
        | _ => cases h1.2
      | _ => cases h1
    | _ => cases h2
  · cases h
theorem h_is_pile : ∀ ds R Er, ds.length = 2 → f_is_pile ds R Er → d_is_pile { nx := fun _ => R .none, rt := fun d _ => R d } (startD 2 ds) Er := by
  intro ds R Er hl ⟨p, v, e, hr⟩
  subst e
  show d_is_pile _ [some (.dat (.int p)), some (.dat v)] Er
  simp only [d_is_pile, wipeD, List.getElem?_cons_zero, List.getElem?_cons_succ, List.set_cons_succ, List.set_cons_zero, List.length_cons, List.length_nil, List.cons_append, List.nil_append, gT, gCons', gN, gNil', sNil, sSeq, sRet, sDrop, sIf, sAsg, sSet, sPar, sFor, dOp, dCall, dCons, dNil, dVar, dVarF, dC, dTup, dLst, dLc, dSeq, dFn, dFnO, dTOp, dTru, truD, dTAnd, dTOr, dTNot, dAnd, dOr, dNot, dIf, leBig, ltBig, Nat.reduceAdd, Nat.reduceLeDiff, if_true, Bool.not_true, Bool.not_false, true_and]
  refine ⟨v, 3, rfl, ?_⟩
  cases v with
  | tuple xs =>
    match xs with
    | [a, b, c] =>
      have e1 : isTL (.tuple [a, b, c]) 3 = true := rfl
      have e2 : fSl (.tuple [a, b, c]) none (some 2) = some (.tuple [a, b]) := rfl
      simp only [e1, e2, fIx_t2, dSl, dNoPart, dPart, wipeD, List.getElem?_cons_zero, List.getElem?_cons_succ, List.set_cons_succ, List.set_cons_zero, List.length_cons, List.length_nil, List.cons_append, List.nil_append, gT, gCons', gN, gNil', sNil, sSeq, sRet, sDrop, sIf, sAsg, sSet, sPar, sFor, dOp, dCall, dCons, dNil, dVar, dVarF, dC, dTup, dLst, dLc, dSeq, dFn, dFnO, dTOp, dTru, truD, dTAnd, dTOr, dTNot, dAnd, dOr, dNot, dIf, leBig, ltBig, Nat.reduceAdd, Nat.reduceLeDiff, if_true, Bool.not_true, Bool.not_false, true_and]
      refine ⟨p, _, rfl, ?_⟩
      simp only [isPile] at hr
      cases h : isStr p (.tuple [a, b]) with
      | true =>
        simp only [h, Bool.true_and] at hr
        simp only [h, wipeD, List.getElem?_cons_zero, List.getElem?_cons_succ, List.set_cons_succ, List.set_cons_zero, List.length_cons, List.length_nil, List.cons_append, List.nil_append, gT, gCons', gN, gNil', sNil, sSeq, sRet, sDrop, sIf, sAsg, sSet, sPar, sFor, dOp, dCall, dCons, dNil, dVar, dVarF, dC, dTup, dLst, dLc, dSeq, dFn, dFnO, dTOp, dTru, truD, dTAnd, dTOr, dTNot, dAnd, dOr, dNot, dIf, leBig, ltBig, Nat.reduceAdd, Nat.reduceLeDiff, if_true, Bool.not_true, Bool.not_false, true_and]
        exact ⟨c, 1, 8, rfl, hr⟩
      | false =>
        simp only [h, Bool.false_and] at hr
        simp only [h, wipeD, List.getElem?_cons_zero, List.getElem?_cons_succ, List.set_cons_succ, List.set_cons_zero, List.length_cons, List.length_nil, List.cons_append, List.nil_append, gT, gCons', gN, gNil', sNil, sSeq, sRet, sDrop, sIf, sAsg, sSet, sPar, sFor, dOp, dCall, dCons, dNil, dVar, dVarF, dC, dTup, dLst, dLc, dSeq, dFn, dFnO, dTOp, dTru, truD, dTAnd, dTOr, dTNot, dAnd, dOr, dNot, dIf, leBig, ltBig, Nat.reduceAdd, Nat.reduceLeDiff, if_true, Bool.not_true, Bool.not_false, true_and]
        exact hr
    | [] => exact hr
    | [_] => exact hr
    | [_, _] => exact hr
    | a :: b :: c :: d :: r =>
      have e : isTL (.tuple (a :: b :: c :: d :: r)) 3 = false := by simp only [isTL, List.length_cons]; exact decide_eq_false (by omega)
      simp only [e, wipeD, List.getElem?_cons_zero, List.getElem?_cons_succ, List.set_cons_succ, List.set_cons_zero, List.length_cons, List.length_nil, List.cons_append, List.nil_append, gT, gCons', gN, gNil', sNil, sSeq, sRet, sDrop, sIf, sAsg, sSet, sPar, sFor, dOp, dCall, dCons, dNil, dVar, dVarF, dC, dTup, dLst, dLc, dSeq, dFn, dFnO, dTOp, dTru, truD, dTAnd, dTOr, dTNot, dAnd, dOr, dNot, dIf, leBig, ltBig, Nat.reduceAdd, Nat.reduceLeDiff, if_true, Bool.not_true, Bool.not_false, true_and]
      exact hr
  | _ => exact hr
theorem max_of {ns : List Int} {t m : Int} (hm : m ∈ ns) (h : ∀ y ∈ ns, y ≤ m) : decide (t < m) = ns.any fun y => decide (t < y) := by
  cases e : ns.any fun y => decide (t < y) with
  | true =>
    obtain ⟨y, hy, hz⟩ := List.any_eq_true.mp e
    have := h y hy
    have hz := of_decide_eq_true hz
    exact decide_eq_true (by omega)
  | false =>
    have := List.any_eq_false.mp e m hm
    exact decide_eq_false (by simpa using this)
theorem h_is_too_high : ∀ ds R Er, ds.length = 2 → f_is_too_high ds R Er → d_is_too_high { nx := fun _ => R .none, rt := fun d _ => R d } (startD 2 ds) Er := by
  intro ds R Er hl ⟨p, h, e, h1, h2, hn, hr⟩
  subst e
  show d_is_too_high _ [some (.dat (.int p)), some (.dat (heapD h))] Er
  simp only [d_is_too_high, dMaxB, wipeD, List.getElem?_cons_zero, List.getElem?_cons_succ, List.set_cons_succ, List.set_cons_zero, List.length_cons, List.length_nil, List.cons_append, List.nil_append, gT, gCons', gN, gNil', sNil, sSeq, sRet, sDrop, sIf, sAsg, sSet, sPar, sFor, dOp, dCall, dCons, dNil, dVar, dVarF, dC, dTup, dLst, dLc, dSeq, dFn, dFnO, dTOp, dTru, truD, dTAnd, dTOr, dTNot, dAnd, dOr, dNot, dIf, leBig, ltBig, Nat.reduceAdd, Nat.reduceLeDiff, if_true, Bool.not_true, Bool.not_false, true_and]
  refine ⟨p, h, rfl, h1, h2, hn, (List.range p.toNat).map fun k => covP h k, .inl (by rw [List.map_map]; rfl), by rw [List.length_map, List.length_range]; omega, fun m hm hy => ?_⟩
  simp only [iGt, wipeD, List.getElem?_cons_zero, List.getElem?_cons_succ, List.set_cons_succ, List.set_cons_zero, List.length_cons, List.length_nil, List.cons_append, List.nil_append, gT, gCons', gN, gNil', sNil, sSeq, sRet, sDrop, sIf, sAsg, sSet, sPar, sFor, dOp, dCall, dCons, dNil, dVar, dVarF, dC, dTup, dLst, dLc, dSeq, dFn, dFnO, dTOp, dTru, truD, dTAnd, dTOr, dTNot, dAnd, dOr, dNot, dIf, leBig, ltBig, Nat.reduceAdd, Nat.reduceLeDiff, if_true, Bool.not_true, Bool.not_false, true_and]
  have e := max_of (t := 8) hm hy
  rw [List.any_map] at e
  simp only [highB] at hr
  have e2 : decide (m > 8) = decide (8 < m) := rfl
  rw [e2, e]
  exact hr
theorem rises_any : ∀ h : List Pile, ((List.range (h.length - 1)).any fun k => match h[k]?, h[k + 1]? with | some x, some y => geP (x.1, x.2.1) (y.1, y.2.1) | _, _ => false) = !risesB h
  | [] => rfl
  | [x] => rfl
  | x :: y :: r => by
    have ih := rises_any (y :: r)
    simp only [List.length_cons, Nat.add_sub_cancel, risesB, Bool.not_and] at ih ⊢
    rw [List.range_succ_eq_map, List.any_cons, List.any_map]
    simp only [List.getElem?_cons_zero, List.getElem?_cons_succ, Function.comp_def]
    rw [← ih]
    congr 1
    by_cases z1 : x.1 = y.1
    · by_cases z2 : x.2.1 = y.2.1
      · simp [geP, ltK, z1, z2]
      · by_cases z3 : x.2.1 < y.2.1
        · simp [geP, ltK, z1, z2, z3]
        · simp [geP, ltK, z1, z2, z3]; omega
    · by_cases z3 : x.1 < y.1
      · simp [geP, ltK, z1, z3]
      · simp [geP, ltK, z1, z3]; omega
theorem boolsD_gen {α : Type} (p : α → Bool) : ∀ xs : List α, boolsD (xs.map fun x => .bool (p x)) = some (xs.map p)
  | [] => rfl
  | x :: r => by simp only [List.map_cons, boolsD, boolsD_gen p r, Option.map_some]
theorem fAll_gen {α : Type} (p : α → Bool) (xs : List α) : fAll [.list (xs.map fun x => .bool (p x))] = some (.bool (xs.all p)) := by
  simp only [fAll, boolsD_gen, Option.map_some, List.all_map, Function.comp_def, id]
theorem fAny_gen {α : Type} (p : α → Bool) (xs : List α) : fAny [.list (xs.map fun x => .bool (p x))] = some (.bool (xs.any p)) := by
  simp only [fAny, boolsD_gen, Option.map_some, List.any_map, Function.comp_def, id]
theorem piles_of {p : Int} {xs : List PyData} (h : xs.all (isPile p) = true) : xs = (xs.map pileOf).map dP := by
  rw [List.map_map]
  conv => lhs; rw [← List.map_id xs]
  refine List.map_congr_left fun x hx => ?_
  exact (isPile_dP (List.all_eq_true.mp h x hx)).1
theorem h_is_heap (ca : CA) : ∀ ds R Er, ds.length = 2 → f_is_heap ca ds R Er → d_is_heap ca { nx := fun _ => R .none, rt := fun d _ => R d } (startD 5 ds) Er := by
  intro ds R Er hl ⟨p, v, e, h1, h2, hn, hr⟩
  subst e
  show d_is_heap ca _ [some (.dat (.int p)), some (.dat v), none, none, none] Er
  simp only [d_is_heap, wipeD, List.getElem?_cons_zero, List.getElem?_cons_succ, List.set_cons_succ, List.set_cons_zero, List.length_cons, List.length_nil, List.cons_append, List.nil_append, gT, gCons', gN, gNil', sNil, sSeq, sRet, sDrop, sIf, sAsg, sSet, sPar, sFor, dOp, dCall, dCons, dNil, dVar, dVarF, dC, dTup, dLst, dLc, dSeq, dFn, dFnO, dTOp, dTru, truD, dTAnd, dTOr, dTNot, dAnd, dOr, dNot, dIf, leBig, ltBig, Nat.reduceAdd, Nat.reduceLeDiff, if_true, Bool.not_true, Bool.not_false, true_and]
  refine ⟨p, rfl, h1, h2, ?_⟩
  cases v with
  | tuple xs =>
    have hx := hn xs rfl
    have e1 : isiD "tuple" (.tuple xs) = true := rfl
    simp only [dIsi, e1, wipeD, List.getElem?_cons_zero, List.getElem?_cons_succ, List.set_cons_succ, List.set_cons_zero, List.length_cons, List.length_nil, List.cons_append, List.nil_append, gT, gCons', gN, gNil', sNil, sSeq, sRet, sDrop, sIf, sAsg, sSet, sPar, sFor, dOp, dCall, dCons, dNil, dVar, dVarF, dC, dTup, dLst, dLc, dSeq, dFn, dFnO, dTOp, dTru, truD, dTAnd, dTOr, dTNot, dAnd, dOr, dNot, dIf, leBig, ltBig, Nat.reduceAdd, Nat.reduceLeDiff, if_true, Bool.not_true, Bool.not_false, true_and]
    have e0 : xs = xs.map id := (List.map_id xs).symm
    suffices key : ∀ ys : List PyData, ys = xs.map id → lcGo _ _ _ _ _ ys _ _ by exact key xs e0
    rintro ys rfl
    refine lc_each id (fun x => .bool (isPile p x)) xs (fun x hx Kt k1 => ?_) (by simp [big]; omega) ?_
    · simp only [wipeD, List.getElem?_cons_zero, List.getElem?_cons_succ, List.set_cons_succ, List.set_cons_zero, List.length_cons, List.length_nil, List.cons_append, List.nil_append, gT, gCons', gN, gNil', sNil, sSeq, sRet, sDrop, sIf, sAsg, sSet, sPar, sFor, dOp, dCall, dCons, dNil, dVar, dVarF, dC, dTup, dLst, dLc, dSeq, dFn, dFnO, dTOp, dTru, truD, dTAnd, dTOr, dTNot, dAnd, dOr, dNot, dIf, leBig, ltBig, Nat.reduceAdd, Nat.reduceLeDiff, if_true, Bool.not_true, Bool.not_false, true_and]
      exact ⟨p, x, rfl, k1⟩
    simp only [fAll_map, wipeD, List.getElem?_cons_zero, List.getElem?_cons_succ, List.set_cons_succ, List.set_cons_zero, List.length_cons, List.length_nil, List.cons_append, List.nil_append, gT, gCons', gN, gNil', sNil, sSeq, sRet, sDrop, sIf, sAsg, sSet, sPar, sFor, dOp, dCall, dCons, dNil, dVar, dVarF, dC, dTup, dLst, dLc, dSeq, dFn, dFnO, dTOp, dTru, truD, dTAnd, dTOr, dTNot, dAnd, dOr, dNot, dIf, leBig, ltBig, Nat.reduceAdd, Nat.reduceLeDiff, if_true, Bool.not_true, Bool.not_false, true_and]
    cases ha : xs.all (isPile p) with
    | false =>
      simp only [isHp, ha, Bool.false_and] at hr
      simp only [wipeD, List.getElem?_cons_zero, List.getElem?_cons_succ, List.set_cons_succ, List.set_cons_zero, List.length_cons, List.length_nil, List.cons_append, List.nil_append, gT, gCons', gN, gNil', sNil, sSeq, sRet, sDrop, sIf, sAsg, sSet, sPar, sFor, dOp, dCall, dCons, dNil, dVar, dVarF, dC, dTup, dLst, dLc, dSeq, dFn, dFnO, dTOp, dTru, truD, dTAnd, dTOr, dTNot, dAnd, dOr, dNot, dIf, leBig, ltBig, Nat.reduceAdd, Nat.reduceLeDiff, if_true, Bool.not_true, Bool.not_false, true_and]
      exact hr
    | true =>
      simp only [wipeD, List.getElem?_cons_zero, List.getElem?_cons_succ, List.set_cons_succ, List.set_cons_zero, List.length_cons, List.length_nil, List.cons_append, List.nil_append, gT, gCons', gN, gNil', sNil, sSeq, sRet, sDrop, sIf, sAsg, sSet, sPar, sFor, dOp, dCall, dCons, dNil, dVar, dVarF, dC, dTup, dLst, dLc, dSeq, dFn, dFnO, dTOp, dTru, truD, dTAnd, dTOr, dTNot, dAnd, dOr, dNot, dIf, leBig, ltBig, Nat.reduceAdd, Nat.reduceLeDiff, if_true, Bool.not_true, Bool.not_false, true_and]
      have eh := piles_of ha
      simp only [isHp, ha, Bool.true_and] at hr
      generalize xs.map pileOf = h at eh hr
      subst eh
      rw [List.length_map] at hx
      refine lc_each dP (fun x => .tuple [.int x.1, .int x.2.1]) h (fun x hx Kt k1 => ?_) (by simp [big]; omega) ?_
      · have e2 : fSl (dP x) none (some 2) = some (.tuple [.int x.1, .int x.2.1]) := rfl
        simp only [dSl, dNoPart, dPart, e2, wipeD, List.getElem?_cons_zero, List.getElem?_cons_succ, List.set_cons_succ, List.set_cons_zero, List.length_cons, List.length_nil, List.cons_append, List.nil_append, gT, gCons', gN, gNil', sNil, sSeq, sRet, sDrop, sIf, sAsg, sSet, sPar, sFor, dOp, dCall, dCons, dNil, dVar, dVarF, dC, dTup, dLst, dLc, dSeq, dFn, dFnO, dTOp, dTru, truD, dTAnd, dTOr, dTNot, dAnd, dOr, dNot, dIf, leBig, ltBig, Nat.reduceAdd, Nat.reduceLeDiff, if_true, Bool.not_true, Bool.not_false, true_and]
        exact k1
      simp only [fLen, iSub, dRange1, List.length_map, wipeD, List.getElem?_cons_zero, List.getElem?_cons_succ, List.set_cons_succ, List.set_cons_zero, List.length_cons, List.length_nil, List.cons_append, List.nil_append, gT, gCons', gN, gNil', sNil, sSeq, sRet, sDrop, sIf, sAsg, sSet, sPar, sFor, dOp, dCall, dCons, dNil, dVar, dVarF, dC, dTup, dLst, dLc, dSeq, dFn, dFnO, dTOp, dTru, truD, dTAnd, dTOr, dTNot, dAnd, dOr, dNot, dIf, leBig, ltBig, Nat.reduceAdd, Nat.reduceLeDiff, if_true, Bool.not_true, Bool.not_false, true_and]
      refine ⟨by omega, by omega, ?_⟩
      have e3 : ((h.length : Int) - 1).toNat = h.length - 1 := by omega
      rw [e3, rangeD_nat]
      refine lc_each natD (fun k => .bool (match h[k]?, h[k + 1]? with | some x, some y => geP (x.1, x.2.1) (y.1, y.2.1) | _, _ => false)) (List.range (h.length - 1)) (fun k hk Kt k1 => ?_) (by rw [List.length_range]; simp [big]; omega) ?_
      · have hk := List.mem_range.mp hk
        obtain ⟨x, ex⟩ : ∃ x, h[k]? = some x := ⟨_, List.getElem?_eq_getElem (by omega)⟩
        obtain ⟨y, ey⟩ : ∃ y, h[k + 1]? = some y := ⟨_, List.getElem?_eq_getElem (by omega)⟩
        have f1 : fIx (.list (h.map fun x => PyData.tuple [.int x.1, .int x.2.1])) (.int (k : Int)) = some (.tuple [.int x.1, .int x.2.1]) := fIx_atL (by omega) (by rw [Int.toNat_natCast]; exact ex)
        have f2 : fIx (.list (h.map fun x => PyData.tuple [.int x.1, .int x.2.1])) (.int ((k : Int) + 1)) = some (.tuple [.int y.1, .int y.2.1]) := fIx_atL (by omega) (by rw [show ((k : Int) + 1).toNat = k + 1 by omega]; exact ey)
        simp only [ex, ey] at k1
        simp only [natD, iAdd, f1, f2, fGeP, wipeD, List.getElem?_cons_zero, List.getElem?_cons_succ, List.set_cons_succ, List.set_cons_zero, List.length_cons, List.length_nil, List.cons_append, List.nil_append, gT, gCons', gN, gNil', sNil, sSeq, sRet, sDrop, sIf, sAsg, sSet, sPar, sFor, dOp, dCall, dCons, dNil, dVar, dVarF, dC, dTup, dLst, dLc, dSeq, dFn, dFnO, dTOp, dTru, truD, dTAnd, dTOr, dTNot, dAnd, dOr, dNot, dIf, leBig, ltBig, Nat.reduceAdd, Nat.reduceLeDiff, if_true, Bool.not_true, Bool.not_false, true_and]
        exact k1
      have e4 : fAny [.list ((List.range (h.length - 1)).map fun k => PyData.bool (match h[k]?, h[k + 1]? with | some x, some y => geP (x.1, x.2.1) (y.1, y.2.1) | _, _ => false))] = some (.bool (!risesB h)) := by
        rw [← rises_any h]
        rw [fAny_gen]
      simp only [e4, wipeD, List.getElem?_cons_zero, List.getElem?_cons_succ, List.set_cons_succ, List.set_cons_zero, List.length_cons, List.length_nil, List.cons_append, List.nil_append, gT, gCons', gN, gNil', sNil, sSeq, sRet, sDrop, sIf, sAsg, sSet, sPar, sFor, dOp, dCall, dCons, dNil, dVar, dVarF, dC, dTup, dLst, dLc, dSeq, dFn, dFnO, dTOp, dTru, truD, dTAnd, dTOr, dTNot, dAnd, dOr, dNot, dIf, leBig, ltBig, Nat.reduceAdd, Nat.reduceLeDiff, if_true, Bool.not_true, Bool.not_false, true_and]
      cases hb : risesB h with
      | false =>
        simp only [hb, Bool.false_and] at hr
        simp only [wipeD, List.getElem?_cons_zero, List.getElem?_cons_succ, List.set_cons_succ, List.set_cons_zero, List.length_cons, List.length_nil, List.cons_append, List.nil_append, gT, gCons', gN, gNil', sNil, sSeq, sRet, sDrop, sIf, sAsg, sSet, sPar, sFor, dOp, dCall, dCons, dNil, dVar, dVarF, dC, dTup, dLst, dLc, dSeq, dFn, dFnO, dTOp, dTru, truD, dTAnd, dTOr, dTNot, dAnd, dOr, dNot, dIf, leBig, ltBig, Nat.reduceAdd, Nat.reduceLeDiff, if_true, Bool.not_true, Bool.not_false, true_and]
        exact hr
      | true =>
        simp only [hb, Bool.true_and] at hr
        simp only [wipeD, List.getElem?_cons_zero, List.getElem?_cons_succ, List.set_cons_succ, List.set_cons_zero, List.length_cons, List.length_nil, List.cons_append, List.nil_append, gT, gCons', gN, gNil', sNil, sSeq, sRet, sDrop, sIf, sAsg, sSet, sPar, sFor, dOp, dCall, dCons, dNil, dVar, dVarF, dC, dTup, dLst, dLc, dSeq, dFn, dFnO, dTOp, dTru, truD, dTAnd, dTOr, dTNot, dAnd, dOr, dNot, dIf, leBig, ltBig, Nat.reduceAdd, Nat.reduceLeDiff, if_true, Bool.not_true, Bool.not_false, true_and]
        exact ⟨p, h, rfl, h1, h2, hx, hr⟩
  | _ => exact hr
end DD

namespace DD
open PySem L2

theorem fListOf_t (xs : List PyData) : fTupOf [.list xs] = some (.tuple xs) := rfl
theorem h_piled : ∀ ds R Er, ds.length = 1 → f_piled ds R Er → d_piled { nx := fun _ => R .none, rt := fun d _ => R d } (startD 5 ds) Er := by
  intro ds R Er hl ⟨h, e, hn, hr⟩
  subst e
  show d_piled _ [some (.dat (.list (h.map dP))), none, none, none, none] Er
  simp only [d_piled, sNewD, wipeD, List.getElem?_cons_zero, List.getElem?_cons_succ, List.set_cons_succ, List.set_cons_zero, List.length_cons, List.length_nil, List.cons_append, List.nil_append, gT, gCons', gN, gNil', sNil, sSeq, sRet, sDrop, sIf, sAsg, sSet, sPar, sFor, dOp, dCall, dCons, dNil, dVar, dVarF, dC, dTup, dLst, dLc, dSeq, dFn, dFnO, dTOp, dTru, truD, dTAnd, dTOr, dTNot, dAnd, dOr, dNot, dIf, leBig, ltBig, Nat.reduceAdd, Nat.reduceLeDiff, if_true, Bool.not_true, Bool.not_false, true_and]
  refine for_all dP (fun s : CM × Option D × Option D × Option D => [some (.dat (.list (h.map dP))), some (.obj (.dT (encM s.1))), s.2.1, s.2.2.1, s.2.2.2])
    (fun pre r s => pre ++ r = h ∧ Counts pre s.1 ∧ okS s.2.1 ∧ okS s.2.2.1 ∧ okS s.2.2.2) ?_ ?_ h [] ([], none, none, none) ⟨rfl, Counts.nil, okS_none, okS_none, okS_none⟩
  · rintro pre ⟨m, x2, x3, x4⟩ ⟨he, C, _, _, _⟩
    rw [List.append_nil] at he
    subst he
    have C : Counts pre m := C
    simp only [dSortedO, wipeD, List.getElem?_cons_zero, List.getElem?_cons_succ, List.set_cons_succ, List.set_cons_zero, List.length_cons, List.length_nil, List.cons_append, List.nil_append, gT, gCons', gN, gNil', sNil, sSeq, sRet, sDrop, sIf, sAsg, sSet, sPar, sFor, dOp, dCall, dCons, dNil, dVar, dVarF, dC, dTup, dLst, dLc, dSeq, dFn, dFnO, dTOp, dTru, truD, dTAnd, dTOr, dTNot, dAnd, dOr, dNot, dIf, leBig, ltBig, Nat.reduceAdd, Nat.reduceLeDiff, if_true, Bool.not_true, Bool.not_false, true_and]
    refine ⟨encM m, m.map (·.1), rfl, by unfold encM; rw [List.map_map, List.map_map]; rfl, fun qs pq sq => ?_⟩
    have lq : qs.length ≤ 5000 := by rw [pq.length_eq, List.length_map]; have := C.len; omega
    refine lc_each pairD (fun q => dP (q.1, q.2, sumK pre q)) qs (fun q hq Kt k1 => ?_) (by simp [big]; omega) ?_
    · have gq : getM m q = some (sumK pre q) := by
        rw [C.get, if_pos ((C.mem q).mp (pq.mem_iff.mp hq))]
      have e1 : lookT (encM m) [.inl q.1, .inl q.2] = some (.int (sumK pre q)) := by
        show lookT (encM m) (keyP q) = _
        rw [look_enc, gq]; rfl
      simp only [pairD, keysI, keyI, dDGetT, e1, Option.map_some, wipeD, List.getElem?_cons_zero, List.getElem?_cons_succ, List.set_cons_succ, List.set_cons_zero, List.length_cons, List.length_nil, List.cons_append, List.nil_append, gT, gCons', gN, gNil', sNil, sSeq, sRet, sDrop, sIf, sAsg, sSet, sPar, sFor, dOp, dCall, dCons, dNil, dVar, dVarF, dC, dTup, dLst, dLc, dSeq, dFn, dFnO, dTOp, dTru, truD, dTAnd, dTOr, dTNot, dAnd, dOr, dNot, dIf, leBig, ltBig, Nat.reduceAdd, Nat.reduceLeDiff, if_true, Bool.not_true, Bool.not_false, true_and]
      exact ⟨⟨_, rfl⟩, ⟨_, rfl, k1⟩⟩
    · simp only [fListOf_t, wipeD, List.getElem?_cons_zero, List.getElem?_cons_succ, List.set_cons_succ, List.set_cons_zero, List.length_cons, List.length_nil, List.cons_append, List.nil_append, gT, gCons', gN, gNil', sNil, sSeq, sRet, sDrop, sIf, sAsg, sSet, sPar, sFor, dOp, dCall, dCons, dNil, dVar, dVarF, dC, dTup, dLst, dLc, dSeq, dFn, dFnO, dTOp, dTru, truD, dTAnd, dTOr, dTNot, dAnd, dOr, dNot, dIf, leBig, ltBig, Nat.reduceAdd, Nat.reduceLeDiff, if_true, Bool.not_true, Bool.not_false, true_and]
      have := hr _ (C.piled pq sq)
      simpa only [heapD, List.map_map, Function.comp_def] using this
  · rintro pre x r ⟨m, x2, x3, x4⟩ ⟨he, C, h2, h3, h4⟩ KK hk
    have C : Counts pre m := C
    have hc := C.len
    have lh : pre.length < 5000 := by
      have := congrArg List.length he
      rw [List.length_append, List.length_cons] at this
      omega
    have e1 : lookT (encM m) [.inl x.1, .inl x.2.1] = (getM m (keyOf x)).map .int := look_enc m (keyOf x)
    have e2 : ∀ v, putT (encM m) [.inl x.1, .inl x.2.1] (.int v) = encM (setM m (keyOf x) v) := fun v => put_enc m (keyOf x) v
    have e3 : ((getM m (keyOf x)).map PyData.int).getD (.int 0) = .int ((getM m (keyOf x)).getD 0) := by cases getM m (keyOf x) <;> rfl
    have lm : (encM m).length < 100000 := by unfold encM; rw [List.length_map]; omega
    simp only [dP, sDSet, dDGetD, keysI, keyI, Option.map_some, e1, e2, e3, iAdd, lm, wipeD, List.getElem?_cons_zero, List.getElem?_cons_succ, List.set_cons_succ, List.set_cons_zero, List.length_cons, List.length_nil, List.cons_append, List.nil_append, gT, gCons', gN, gNil', sNil, sSeq, sRet, sDrop, sIf, sAsg, sSet, sPar, sFor, dOp, dCall, dCons, dNil, dVar, dVarF, dC, dTup, dLst, dLc, dSeq, dFn, dFnO, dTOp, dTru, truD, dTAnd, dTOr, dTNot, dAnd, dOr, dNot, dIf, leBig, ltBig, Nat.reduceAdd, Nat.reduceLeDiff, if_true, Bool.not_true, Bool.not_false, true_and]
    refine ⟨⟨_, rfl⟩, ⟨_, rfl⟩, fun j o ho => ?_, hk (addM m x, some (.dat (.int x.1)), some (.dat (.int x.2.1)), some (.dat (.int x.2.2))) ⟨by simpa using he, C.snoc x, okS_dat _, okS_dat _, okS_dat _⟩⟩
    match j with
    | 0 => cases ho
    | 1 => rfl
    | 2 => cases ho
    | 3 => cases ho
    | 4 => cases ho
    | j + 5 => simp at ho
theorem h_check_tide (ca : CA) : ∀ ds R Er, ds.length = 3 → f_check_tide ca ds R Er → d_check_tide ca { nx := fun _ => R .none, rt := fun d _ => R d } (startD 3 ds) Er := by
  intro ds R Er hl ⟨k, v, m, e, h1, h2, hx, ht, hf⟩
  subst e
  show d_check_tide ca _ [some (.dat (.int k)), some (.dat v), some (.dat (.bool m))] Er
  have e1 : fMul (.int 2) (.int k) = some (.int (2 * k)) := iMul (by omega) (by omega)
  simp only [d_check_tide, e1, iSub, true_and, startD, startS, startN, dVar, dVarF, dC, dOp, dTru, truD, dTOp, dIsN, dNotN, dTIsN, dTNotN, dTAnd, dTOr, dTNot, dAnd, dOr, dNot, dIf, dChain, dTChain, dSl, dNoPart, dPart, dNil, dCons, dTup, dLst, dCall, dFn, dFnS, sNil, sSeq, sRet, sDrop, sIf, gN, gNil', gCons', gT, sAsg, sSet, sPar, sAug, sSetO, dSeq, dSrc0, dSrc1, sSrc0, sSrc1, dIsi, fAdd, fSub, fMul, fMod, fDiv, fLt, fLe, fGt, fGe, dI2, dB2, dI2c, fIsB, fNotB, isNonD, fLen, fMax2, fMin2, fInt, fListOf, fTupOf, List.getElem?_cons_zero, List.getElem?_cons_succ, List.set_cons_zero, List.set_cons_succ, List.length_cons, List.length_nil, Bool.not_true, Bool.not_false, leBig, ltBig, Nat.reduceAdd, Nat.reduceLeDiff, List.cons_append, List.nil_append, if_true, sRaise, wipeD]
  refine ⟨2 * k - 1, v, rfl, by omega, by omega, hx, ?_⟩
  unfold tideB at ht hf
  cases z1 : isHp (2 * k - 1) v with
  | false =>
    simp only [true_and, startD, startS, startN, dVar, dVarF, dC, dOp, dTru, truD, dTOp, dIsN, dNotN, dTIsN, dTNotN, dTAnd, dTOr, dTNot, dAnd, dOr, dNot, dIf, dChain, dTChain, dSl, dNoPart, dPart, dNil, dCons, dTup, dLst, dCall, dFn, dFnS, sNil, sSeq, sRet, sDrop, sIf, gN, gNil', gCons', gT, sAsg, sSet, sPar, sAug, sSetO, dSeq, dSrc0, dSrc1, sSrc0, sSrc1, dIsi, fAdd, fSub, fMul, fMod, fDiv, fLt, fLe, fGt, fGe, dI2, dB2, dI2c, fIsB, fNotB, isNonD, fLen, fMax2, fMin2, fInt, fListOf, fTupOf, List.getElem?_cons_zero, List.getElem?_cons_succ, List.set_cons_zero, List.set_cons_succ, List.length_cons, List.length_nil, Bool.not_true, Bool.not_false, leBig, ltBig, Nat.reduceAdd, Nat.reduceLeDiff, List.cons_append, List.nil_append, if_true, sRaise, wipeD]
    exact hf (by simp [z1])
  | true =>
    simp only [true_and, startD, startS, startN, dVar, dVarF, dC, dOp, dTru, truD, dTOp, dIsN, dNotN, dTIsN, dTNotN, dTAnd, dTOr, dTNot, dAnd, dOr, dNot, dIf, dChain, dTChain, dSl, dNoPart, dPart, dNil, dCons, dTup, dLst, dCall, dFn, dFnS, sNil, sSeq, sRet, sDrop, sIf, gN, gNil', gCons', gT, sAsg, sSet, sPar, sAug, sSetO, dSeq, dSrc0, dSrc1, sSrc0, sSrc1, dIsi, fAdd, fSub, fMul, fMod, fDiv, fLt, fLe, fGt, fGe, dI2, dB2, dI2c, fIsB, fNotB, isNonD, fLen, fMax2, fMin2, fInt, fListOf, fTupOf, List.getElem?_cons_zero, List.getElem?_cons_succ, List.set_cons_zero, List.set_cons_succ, List.length_cons, List.length_nil, Bool.not_true, Bool.not_false, leBig, ltBig, Nat.reduceAdd, Nat.reduceLeDiff, List.cons_append, List.nil_append, if_true, sRaise, wipeD]
    cases m with
    | true =>
      simp only [true_and, startD, startS, startN, dVar, dVarF, dC, dOp, dTru, truD, dTOp, dIsN, dNotN, dTIsN, dTNotN, dTAnd, dTOr, dTNot, dAnd, dOr, dNot, dIf, dChain, dTChain, dSl, dNoPart, dPart, dNil, dCons, dTup, dLst, dCall, dFn, dFnS, sNil, sSeq, sRet, sDrop, sIf, gN, gNil', gCons', gT, sAsg, sSet, sPar, sAug, sSetO, dSeq, dSrc0, dSrc1, sSrc0, sSrc1, dIsi, fAdd, fSub, fMul, fMod, fDiv, fLt, fLe, fGt, fGe, dI2, dB2, dI2c, fIsB, fNotB, isNonD, fLen, fMax2, fMin2, fInt, fListOf, fTupOf, List.getElem?_cons_zero, List.getElem?_cons_succ, List.set_cons_zero, List.set_cons_succ, List.length_cons, List.length_nil, Bool.not_true, Bool.not_false, leBig, ltBig, Nat.reduceAdd, Nat.reduceLeDiff, List.cons_append, List.nil_append, if_true, sRaise, wipeD]
      exact ht (by simp [z1])
    | false =>
      simp only [true_and, startD, startS, startN, dVar, dVarF, dC, dOp, dTru, truD, dTOp, dIsN, dNotN, dTIsN, dTNotN, dTAnd, dTOr, dTNot, dAnd, dOr, dNot, dIf, dChain, dTChain, dSl, dNoPart, dPart, dNil, dCons, dTup, dLst, dCall, dFn, dFnS, sNil, sSeq, sRet, sDrop, sIf, gN, gNil', gCons', gT, sAsg, sSet, sPar, sAug, sSetO, dSeq, dSrc0, dSrc1, sSrc0, sSrc1, dIsi, fAdd, fSub, fMul, fMod, fDiv, fLt, fLe, fGt, fGe, dI2, dB2, dI2c, fIsB, fNotB, isNonD, fLen, fMax2, fMin2, fInt, fListOf, fTupOf, List.getElem?_cons_zero, List.getElem?_cons_succ, List.set_cons_zero, List.set_cons_succ, List.length_cons, List.length_nil, Bool.not_true, Bool.not_false, leBig, ltBig, Nat.reduceAdd, Nat.reduceLeDiff, List.cons_append, List.nil_append, if_true, sRaise, wipeD]
      cases v with
      | tuple xs =>
        have hx := hx xs rfl
        simp only [isHp, Bool.and_eq_true] at z1
        have ex := piles_of z1.1
        have hp : pilesOf (.tuple xs) = xs.map pileOf := rfl
        have bnd : ∀ x ∈ xs.map pileOf, 0 ≤ x.1 ∧ x.1 ≤ x.2.1 ∧ x.2.1 ≤ 1000 := fun x hx => by
          obtain ⟨u, hu, rfl⟩ := List.mem_map.mp hx
          obtain ⟨_, a1, a2, a3, _⟩ := isPile_dP (List.all_eq_true.mp z1.1 u hu)
          exact ⟨a1, a2, by omega⟩
        refine ⟨xs.map pileOf, by rw [heapD, ← ex], by rw [List.length_map]; exact hx, bnd, ?_⟩
        rw [hp] at ht hf
        have ea : (xs.map pileOf).any isLone = !((xs.map pileOf).filter isLone).isEmpty := by
          cases q : (xs.map pileOf).filter isLone with
          | nil =>
            rw [List.filter_eq_nil_iff] at q
            simp only [List.isEmpty_nil, Bool.not_true]
            exact List.any_eq_false.mpr q
          | cons a r =>
            have : a ∈ (xs.map pileOf).filter isLone := by rw [q]; exact List.mem_cons_self
            simp only [List.isEmpty_cons, Bool.not_false]
            exact List.any_eq_true.mpr ⟨a, (List.mem_filter.mp this).1, (List.mem_filter.mp this).2⟩
        have z1' : isHp (2 * k - 1) (.tuple xs) = true := by simp only [isHp, Bool.and_eq_true]; exact z1
        rw [z1', ea] at ht hf
        simp only [List.isEmpty_map, true_and, startD, startS, startN, dVar, dVarF, dC, dOp, dTru, truD, dTOp, dIsN, dNotN, dTIsN, dTNotN, dTAnd, dTOr, dTNot, dAnd, dOr, dNot, dIf, dChain, dTChain, dSl, dNoPart, dPart, dNil, dCons, dTup, dLst, dCall, dFn, dFnS, sNil, sSeq, sRet, sDrop, sIf, gN, gNil', gCons', gT, sAsg, sSet, sPar, sAug, sSetO, dSeq, dSrc0, dSrc1, sSrc0, sSrc1, dIsi, fAdd, fSub, fMul, fMod, fDiv, fLt, fLe, fGt, fGe, dI2, dB2, dI2c, fIsB, fNotB, isNonD, fLen, fMax2, fMin2, fInt, fListOf, fTupOf, List.getElem?_cons_zero, List.getElem?_cons_succ, List.set_cons_zero, List.set_cons_succ, List.length_cons, List.length_nil, Bool.not_true, Bool.not_false, leBig, ltBig, Nat.reduceAdd, Nat.reduceLeDiff, List.cons_append, List.nil_append, if_true, sRaise, wipeD]
        cases q : ((xs.map pileOf).filter isLone).isEmpty with
        | true =>
          simp only [q, true_and, startD, startS, startN, dVar, dVarF, dC, dOp, dTru, truD, dTOp, dIsN, dNotN, dTIsN, dTNotN, dTAnd, dTOr, dTNot, dAnd, dOr, dNot, dIf, dChain, dTChain, dSl, dNoPart, dPart, dNil, dCons, dTup, dLst, dCall, dFn, dFnS, sNil, sSeq, sRet, sDrop, sIf, gN, gNil', gCons', gT, sAsg, sSet, sPar, sAug, sSetO, dSeq, dSrc0, dSrc1, sSrc0, sSrc1, dIsi, fAdd, fSub, fMul, fMod, fDiv, fLt, fLe, fGt, fGe, dI2, dB2, dI2c, fIsB, fNotB, isNonD, fLen, fMax2, fMin2, fInt, fListOf, fTupOf, List.getElem?_cons_zero, List.getElem?_cons_succ, List.set_cons_zero, List.set_cons_succ, List.length_cons, List.length_nil, Bool.not_true, Bool.not_false, leBig, ltBig, Nat.reduceAdd, Nat.reduceLeDiff, List.cons_append, List.nil_append, if_true, sRaise, wipeD] at ht ⊢
          exact ht (by simp)
        | false =>
          simp only [q, true_and, startD, startS, startN, dVar, dVarF, dC, dOp, dTru, truD, dTOp, dIsN, dNotN, dTIsN, dTNotN, dTAnd, dTOr, dTNot, dAnd, dOr, dNot, dIf, dChain, dTChain, dSl, dNoPart, dPart, dNil, dCons, dTup, dLst, dCall, dFn, dFnS, sNil, sSeq, sRet, sDrop, sIf, gN, gNil', gCons', gT, sAsg, sSet, sPar, sAug, sSetO, dSeq, dSrc0, dSrc1, sSrc0, sSrc1, dIsi, fAdd, fSub, fMul, fMod, fDiv, fLt, fLe, fGt, fGe, dI2, dB2, dI2c, fIsB, fNotB, isNonD, fLen, fMax2, fMin2, fInt, fListOf, fTupOf, List.getElem?_cons_zero, List.getElem?_cons_succ, List.set_cons_zero, List.set_cons_succ, List.length_cons, List.length_nil, Bool.not_true, Bool.not_false, leBig, ltBig, Nat.reduceAdd, Nat.reduceLeDiff, List.cons_append, List.nil_append, if_true, sRaise, wipeD] at hf ⊢
          exact hf (by simp)
      | _ => cases z1
end DD

namespace DD
open PySem L2

theorem no_b {a b : Bool} {P : Prop} (h : a = b) (z : a = !b) : P := by rw [h] at z; cases b <;> cases z
theorem eqv_str (i j : Str) : PyData.eqv (.str i) (.str j) = decide (i = j) := by
  simp only [PyData.eqv, Bool.beq_eq_decide_eq]
theorem any2s (a b x : Str) : ([PyData.str a, .str b].any fun z => PyData.eqv z (.str x)) = (decide (x = a) || decide (x = b)) := by
  simp only [List.any_cons, List.any_nil, eqv_str, Bool.or_false, eq_comm]
theorem ways_shaped : SeqAt.shaped (.tuple [.str (Str.ofString "unions"), .str (Str.ofString "meets")]) = true := by decide +kernel
theorem inWay {x : Str} (h : SeqAt.shaped (.str x) = true) : fInG (.str x) (.tuple [.str (Str.ofString "unions"), .str (Str.ofString "meets")]) = some (.bool (isWay (.str x))) := by
  simp only [fInG, h, ways_shaped, Bool.and_self, if_true, any2s, isWay]
theorem h_is_net_way : ∀ ds R Er, ds.length = 1 → f_is_net_way ds R Er → d_is_net_way { nx := fun _ => R .none, rt := fun d _ => R d } (startD 1 ds) Er := by
  intro ds R Er hl ⟨v, e, hs, h⟩
  subst e
  show d_is_net_way _ [some (.dat v)] Er
  cases v with
  | str x =>
    have e : isiD "str" (.str x) = true := rfl
    simp only [d_is_net_way, e, inWay hs, true_and, startD, startS, startN, dVar, dVarF, dC, dOp, dTru, truD, dTOp, dIsN, dNotN, dTIsN, dTNotN, dTAnd, dTOr, dTNot, dAnd, dOr, dNot, dIf, dChain, dTChain, dSl, dNoPart, dPart, dNil, dCons, dTup, dLst, dCall, dFn, dFnS, sNil, sSeq, sRet, sDrop, sIf, gN, gNil', gCons', gT, sAsg, sSet, sPar, sAug, sSetO, dSeq, dSrc0, dSrc1, sSrc0, sSrc1, dIsi, fAdd, fSub, fMul, fMod, fDiv, fLt, fLe, fGt, fGe, dI2, dB2, dI2c, fIsB, fNotB, isNonD, fLen, fMax2, fMin2, fInt, fListOf, fTupOf, List.getElem?_cons_zero, List.getElem?_cons_succ, List.set_cons_zero, List.set_cons_succ, List.length_cons, List.length_nil, Bool.not_true, Bool.not_false, leBig, ltBig, Nat.reduceAdd, Nat.reduceLeDiff, List.cons_append, List.nil_append, if_true, sRaise, wipeD]
    exact h
  | _ => exact h
theorem h_check_way (ca : CA) : ∀ ds R Er, ds.length = 1 → f_check_way ca ds R Er → d_check_way ca { nx := fun _ => R .none, rt := fun d _ => R d } (startD 1 ds) Er := by
  intro ds R Er hl ⟨v, e, hs, h1, h2⟩
  subst e
  show d_check_way ca _ [some (.dat v)] Er
  simp only [d_check_way, true_and, startD, startS, startN, dVar, dVarF, dC, dOp, dTru, truD, dTOp, dIsN, dNotN, dTIsN, dTNotN, dTAnd, dTOr, dTNot, dAnd, dOr, dNot, dIf, dChain, dTChain, dSl, dNoPart, dPart, dNil, dCons, dTup, dLst, dCall, dFn, dFnS, sNil, sSeq, sRet, sDrop, sIf, gN, gNil', gCons', gT, sAsg, sSet, sPar, sAug, sSetO, dSeq, dSrc0, dSrc1, sSrc0, sSrc1, dIsi, fAdd, fSub, fMul, fMod, fDiv, fLt, fLe, fGt, fGe, dI2, dB2, dI2c, fIsB, fNotB, isNonD, fLen, fMax2, fMin2, fInt, fListOf, fTupOf, List.getElem?_cons_zero, List.getElem?_cons_succ, List.set_cons_zero, List.set_cons_succ, List.length_cons, List.length_nil, Bool.not_true, Bool.not_false, leBig, ltBig, Nat.reduceAdd, Nat.reduceLeDiff, List.cons_append, List.nil_append, if_true, sRaise, wipeD]
  refine ⟨v, rfl, hs, ?_⟩
  cases h : isWay v with
  | true => exact h1 h
  | false => exact h2 h
theorem h__law_same : ∀ ds R Er, ds.length = 2 → f__law_same ds R Er → d__law_same { nx := fun _ => R .none, rt := fun d _ => R d } (startD 2 ds) Er := by
  intro ds R Er hl ⟨d, e, hd, hR⟩
  subst e
  show d__law_same _ [some (.dat d), some (.dat d)] Er
  simp only [d__law_same, fReprD_gs hd, fEq, true_and, startD, startS, startN, dVar, dVarF, dC, dOp, dTru, truD, dTOp, dIsN, dNotN, dTIsN, dTNotN, dTAnd, dTOr, dTNot, dAnd, dOr, dNot, dIf, dChain, dTChain, dSl, dNoPart, dPart, dNil, dCons, dTup, dLst, dCall, dFn, dFnS, sNil, sSeq, sRet, sDrop, sIf, gN, gNil', gCons', gT, sAsg, sSet, sPar, sAug, sSetO, dSeq, dSrc0, dSrc1, sSrc0, sSrc1, dIsi, fAdd, fSub, fMul, fMod, fDiv, fLt, fLe, fGt, fGe, dI2, dB2, dI2c, fIsB, fNotB, isNonD, fLen, fMax2, fMin2, fInt, fListOf, fTupOf, List.getElem?_cons_zero, List.getElem?_cons_succ, List.set_cons_zero, List.set_cons_succ, List.length_cons, List.length_nil, Bool.not_true, Bool.not_false, leBig, ltBig, Nat.reduceAdd, Nat.reduceLeDiff, List.cons_append, List.nil_append, if_true, sRaise, wipeD]
  exact hR
def gsB (k m : Nat) (d : PyData) : Bool := d.showable && decide (d.depth ≤ k) && decide (sz d ≤ m)
theorem gsB_gs {k m : Nat} {d : PyData} (h : gsB k m d = true) : Gs k m d := by
  simp only [gsB, Bool.and_eq_true, decide_eq_true_eq] at h
  exact ⟨h.1.1, h.1.2, h.2⟩
theorem isWord_eq {w : PyData} (hw : isWay w = true) (x : String) : fEq w (.str (Str.ofString x)) = some (.bool (isWord x w)) := by
  cases w with
  | str s => rfl
  | _ => cases hw
theorem h_turned_over (ca : CA) : ∀ ds R Er, ds.length = 4 → f_turned_over ca ds R Er → d_turned_over ca { nx := fun _ => R .none, rt := fun d _ => R d } (startD 7 ds) Er := by
  intro ds R Er hl ⟨w, n, g, r, e, hs, hg, hr, h1, h2⟩
  subst e
  show d_turned_over ca _ [some (.dat w), some (.dat n), some (.dat g), some (.dat r), none, none, none] Er
  simp only [d_turned_over, iAdd, wipeD, List.getElem?_cons_zero, List.getElem?_cons_succ, List.set_cons_succ, List.set_cons_zero, List.length_cons, List.length_nil, List.cons_append, List.nil_append, gT, gCons', gN, gNil', sNil, sSeq, sRet, sDrop, sIf, sAsg, sSet, sPar, sFor, dOp, dCall, dCons, dNil, dVar, dVarF, dC, dTup, dLst, dLc, dSeq, dFn, dFnO, dTOp, dTru, truD, dTAnd, dTOr, dTNot, dAnd, dOr, dNot, dIf, leBig, ltBig, Nat.reduceAdd, Nat.reduceLeDiff, if_true, Bool.not_true, Bool.not_false, true_and]
  refine ⟨w, rfl, hs, fun hw => ?_, fun hw => h1 hw⟩
  obtain ⟨h2, h3⟩ := h2 hw
  refine ⟨n, 1, 8 + 1, rfl, ?_⟩
  show (match !isFT n 1 9 with | true => _ | false => _ : Prop)
  cases hn : isFT n 1 9 with
  | false => exact h2 hn
  | true =>
    simp only [wipeD, List.getElem?_cons_zero, List.getElem?_cons_succ, List.set_cons_succ, List.set_cons_zero, List.length_cons, List.length_nil, List.cons_append, List.nil_append, gT, gCons', gN, gNil', sNil, sSeq, sRet, sDrop, sIf, sAsg, sSet, sPar, sFor, dOp, dCall, dCons, dNil, dVar, dVarF, dC, dTup, dLst, dLc, dSeq, dFn, dFnO, dTOp, dTru, truD, dTAnd, dTOr, dTNot, dAnd, dOr, dNot, dIf, leBig, ltBig, Nat.reduceAdd, Nat.reduceLeDiff, if_true, Bool.not_true, Bool.not_false, true_and]
    cases n with
    | int k =>
      simp only [isFT, Bool.and_eq_true, decide_eq_true_eq] at hn
      obtain ⟨h4, h5⟩ := h3 k rfl hn.1 hn.2
      rw [isWord_eq hw "meets"]
      simp only [wipeD, List.getElem?_cons_zero, List.getElem?_cons_succ, List.set_cons_succ, List.set_cons_zero, List.length_cons, List.length_nil, List.cons_append, List.nil_append, gT, gCons', gN, gNil', sNil, sSeq, sRet, sDrop, sIf, sAsg, sSet, sPar, sFor, dOp, dCall, dCons, dNil, dVar, dVarF, dC, dTup, dLst, dLc, dSeq, dFn, dFnO, dTOp, dTru, truD, dTAnd, dTOr, dTNot, dAnd, dOr, dNot, dIf, leBig, ltBig, Nat.reduceAdd, Nat.reduceLeDiff, if_true, Bool.not_true, Bool.not_false, true_and]
      refine ⟨k, g, isWord "meets" w, rfl, hn.1, hn.2, hg, fun t1 => ?_, fun t1 => h4 t1⟩
      obtain ⟨h6, h7⟩ := h5 t1
      rw [isWord_eq hw "unions"]
      simp only [wipeD, List.getElem?_cons_zero, List.getElem?_cons_succ, List.set_cons_succ, List.set_cons_zero, List.length_cons, List.length_nil, List.cons_append, List.nil_append, gT, gCons', gN, gNil', sNil, sSeq, sRet, sDrop, sIf, sAsg, sSet, sPar, sFor, dOp, dCall, dCons, dNil, dVar, dVarF, dC, dTup, dLst, dLc, dSeq, dFn, dFnO, dTOp, dTru, truD, dTAnd, dTOr, dTNot, dAnd, dOr, dNot, dIf, leBig, ltBig, Nat.reduceAdd, Nat.reduceLeDiff, if_true, Bool.not_true, Bool.not_false, true_and]
      refine ⟨k, r, isWord "unions" w, rfl, hn.1, hn.2, hr, fun t2 => ?_, fun t2 => h6 t2⟩
      have h8 := h7 t2
      have gp : ∀ {m : Bool} {v : PyData}, tideB m k v = true → (∀ xs, v = .tuple xs → xs.length ≤ 1000) → ∃ h : List Pile, v = heapD h ∧ h.length ≤ 1000 ∧ ∀ x ∈ h, 0 ≤ x.1 ∧ x.1 ≤ x.2.1 ∧ x.2.1 ≤ 1000 := fun {m v} t hx => by
        unfold tideB at t
        simp only [Bool.and_eq_true] at t
        cases v with
        | tuple xs =>
          have t := t.1
          simp only [isHp, Bool.and_eq_true] at t
          refine ⟨xs.map pileOf, by rw [heapD, ← piles_of t.1], by rw [List.length_map]; exact hx xs rfl, fun x hx => ?_⟩
          obtain ⟨u, hu, rfl⟩ := List.mem_map.mp hx
          obtain ⟨_, a1, a2, a3, _⟩ := isPile_dP (List.all_eq_true.mp t.1 u hu)
          exact ⟨a1, a2, by omega⟩
        | _ => simp [isHp] at t
      obtain ⟨G, rfl, lG, bG⟩ := gp t1 hg
      obtain ⟨Q, rfl, lQ, bQ⟩ := gp t2 hr
      have h9 := h8 G Q rfl rfl
      have e1 : fMul (.int 2) (.int k) = some (.int (2 * k)) := iMul (by omega) (by omega)
      simp only [e1, iSub, wipeD, List.getElem?_cons_zero, List.getElem?_cons_succ, List.set_cons_succ, List.set_cons_zero, List.length_cons, List.length_nil, List.cons_append, List.nil_append, gT, gCons', gN, gNil', sNil, sSeq, sRet, sDrop, sIf, sAsg, sSet, sPar, sFor, dOp, dCall, dCons, dNil, dVar, dVarF, dC, dTup, dLst, dLc, dSeq, dFn, dFnO, dTOp, dTru, truD, dTAnd, dTOr, dTNot, dAnd, dOr, dNot, dIf, leBig, ltBig, Nat.reduceAdd, Nat.reduceLeDiff, if_true, Bool.not_true, Bool.not_false, true_and]
      refine ⟨G, 2 * k - 2, rfl, lG, bG, Q, rfl, lQ, bQ, ?_⟩
      have len : ∀ A B : List Pile, A.length ≤ 1000 → B.length ≤ 1000 → fAdd (.list (((A.filter fun x => !isLone x).map (turnP (2 * k - 2))).map dP)) (.list ((B.filter isLone).map dP)) = some (.list ((turnedP (2 * k - 2) A B).map dP)) := fun A B hA hB => by
        have := List.length_filter_le (fun x => !isLone x) A
        have := List.length_filter_le isLone B
        simp only [fAdd, List.length_map, big]
        rw [if_pos (by omega)]
        simp only [turnedP, List.map_append]
      simp only [len G Q lG lQ, wipeD, List.getElem?_cons_zero, List.getElem?_cons_succ, List.set_cons_succ, List.set_cons_zero, List.length_cons, List.length_nil, List.cons_append, List.nil_append, gT, gCons', gN, gNil', sNil, sSeq, sRet, sDrop, sIf, sAsg, sSet, sPar, sFor, dOp, dCall, dCons, dNil, dVar, dVarF, dC, dTup, dLst, dLc, dSeq, dFn, dFnO, dTOp, dTru, truD, dTAnd, dTOr, dTNot, dAnd, dOr, dNot, dIf, leBig, ltBig, Nat.reduceAdd, Nat.reduceLeDiff, if_true, Bool.not_true, Bool.not_false, true_and]
      refine ⟨Q, 2 * k - 2, rfl, lQ, bQ, G, rfl, lG, bG, ?_⟩
      simp only [len Q G lQ lG, wipeD, List.getElem?_cons_zero, List.getElem?_cons_succ, List.set_cons_succ, List.set_cons_zero, List.length_cons, List.length_nil, List.cons_append, List.nil_append, gT, gCons', gN, gNil', sNil, sSeq, sRet, sDrop, sIf, sAsg, sSet, sPar, sFor, dOp, dCall, dCons, dNil, dVar, dVarF, dC, dTup, dLst, dLc, dSeq, dFn, dFnO, dTOp, dTru, truD, dTAnd, dTOr, dTNot, dAnd, dOr, dNot, dIf, leBig, ltBig, Nat.reduceAdd, Nat.reduceLeDiff, if_true, Bool.not_true, Bool.not_false, true_and]
      have ll : ∀ A B : List Pile, A.length ≤ 1000 → B.length ≤ 1000 → (turnedP (2 * k - 2) A B).length ≤ 5000 := fun A B hA hB => by
        have := List.length_filter_le (fun x => !isLone x) A
        have := List.length_filter_le isLone B
        simp only [turnedP, List.length_append, List.length_map]
        omega
      exact ⟨_, rfl, ll G Q lG lQ, fun a pa => ⟨_, rfl, ll Q G lQ lG, fun b pb => h9 a b pa pb⟩⟩
    | _ => cases hn
theorem h__law_is_lone : ∀ ds R Er, ds.length = 1 → f__law_is_lone ds R Er → d__law_is_lone { nx := fun _ => R .none, rt := fun d _ => R d } (startD 1 ds) Er := by
  intro ds R Er hl ⟨a, b, e, hr⟩
  subst e
  show d__law_is_lone _ [some (.dat (.tuple [.int a, .int b]))] Er
  simp only [d__law_is_lone, fIx_t0, fIx_t1, iEq, iMod (show (0 : Int) < 2 by decide), wipeD, List.getElem?_cons_zero, List.getElem?_cons_succ, List.set_cons_succ, List.set_cons_zero, List.length_cons, List.length_nil, List.cons_append, List.nil_append, gT, gCons', gN, gNil', sNil, sSeq, sRet, sDrop, sIf, sAsg, sSet, sPar, sFor, dOp, dCall, dCons, dNil, dVar, dVarF, dC, dTup, dLst, dLc, dSeq, dFn, dFnO, dTOp, dTru, truD, dTAnd, dTOr, dTNot, dAnd, dOr, dNot, dIf, leBig, ltBig, Nat.reduceAdd, Nat.reduceLeDiff, if_true, Bool.not_true, Bool.not_false, true_and]
  by_cases h : a = b
  · simp only [h, decide_true, Bool.true_and, wipeD, List.getElem?_cons_zero, List.getElem?_cons_succ, List.set_cons_succ, List.set_cons_zero, List.length_cons, List.length_nil, List.cons_append, List.nil_append, gT, gCons', gN, gNil', sNil, sSeq, sRet, sDrop, sIf, sAsg, sSet, sPar, sFor, dOp, dCall, dCons, dNil, dVar, dVarF, dC, dTup, dLst, dLc, dSeq, dFn, dFnO, dTOp, dTru, truD, dTAnd, dTOr, dTNot, dAnd, dOr, dNot, dIf, leBig, ltBig, Nat.reduceAdd, Nat.reduceLeDiff, if_true, Bool.not_true, Bool.not_false, true_and] at hr ⊢
    exact hr
  · simp only [h, decide_false, Bool.false_and, wipeD, List.getElem?_cons_zero, List.getElem?_cons_succ, List.set_cons_succ, List.set_cons_zero, List.length_cons, List.length_nil, List.cons_append, List.nil_append, gT, gCons', gN, gNil', sNil, sSeq, sRet, sDrop, sIf, sAsg, sSet, sPar, sFor, dOp, dCall, dCons, dNil, dVar, dVarF, dC, dTup, dLst, dLc, dSeq, dFn, dFnO, dTOp, dTru, truD, dTAnd, dTOr, dTNot, dAnd, dOr, dNot, dIf, leBig, ltBig, Nat.reduceAdd, Nat.reduceLeDiff, if_true, Bool.not_true, Bool.not_false, true_and] at hr ⊢
    exact hr
end DD

namespace DD
open PySem L2

theorem h__law_tide : ∀ ds R Er, ds.length = 2 → f__law_tide ds R Er → d__law_tide { nx := fun _ => R .none, rt := fun d _ => R d } (startD 9 ds) Er := by
  intro ds R Er hl ⟨h, l, e, hn, he, hok, hr⟩
  subst e
  show d__law_tide _ [some (.dat (heapD h)), some (.dat (.int l)), none, none, none, none, none, none, none] Er
  simp only [d__law_tide, sParNN, wipeD, List.getElem?_cons_zero, List.getElem?_cons_succ, List.set_cons_succ, List.set_cons_zero, List.length_cons, List.length_nil, List.cons_append, List.nil_append, gT, gCons', gN, gNil', sNil, sSeq, sRet, sDrop, sIf, sAsg, sSet, sPar, sFor, dOp, dCall, dCons, dNil, dVar, dVarF, dC, dTup, dLst, dLc, dSeq, dFn, dFnO, dTOp, dTru, truD, dTAnd, dTOr, dTNot, dAnd, dOr, dNot, dIf, leBig, ltBig, Nat.reduceAdd, Nat.reduceLeDiff, if_true, Bool.not_true, Bool.not_false, true_and]
  refine for_all dP (fun s : (List Pile × List Pile) × Option D × Option D × Option D × Option D × Option D => [some (.dat (heapD h)), some (.dat (.int l)), some (.own (s.1.1.map dP)), some (.own (s.1.2.map dP)), s.2.1, s.2.2.1, s.2.2.2.1, s.2.2.2.2.1, s.2.2.2.2.2])
    (fun pre r s => pre ++ r = h ∧ s.1.1 = (pre.filter fun x => !isLone x).map (turnP l) ∧ s.1.2 = pre.filter isLone) ?_ ?_ h [] (([], []), none, none, none, none, none) ⟨rfl, rfl, rfl⟩
  · rintro pre ⟨⟨m, o⟩, x4, x5, x6, x7, x8⟩ ⟨h1, h2, h3⟩
    rw [List.append_nil] at h1
    subst h1
    simp only at h2 h3
    subst h2 h3
    simp only [wipeD, List.getElem?_cons_zero, List.getElem?_cons_succ, List.set_cons_succ, List.set_cons_zero, List.length_cons, List.length_nil, List.cons_append, List.nil_append, gT, gCons', gN, gNil', sNil, sSeq, sRet, sDrop, sIf, sAsg, sSet, sPar, sFor, dOp, dCall, dCons, dNil, dVar, dVarF, dC, dTup, dLst, dLc, dSeq, dFn, dFnO, dTOp, dTru, truD, dTAnd, dTOr, dTNot, dAnd, dOr, dNot, dIf, leBig, ltBig, Nat.reduceAdd, Nat.reduceLeDiff, if_true, Bool.not_true, Bool.not_false, true_and]
    exact hr
  · rintro pre x r ⟨⟨m, o⟩, x4, x5, x6, x7, x8⟩ ⟨h1, h2, h3⟩ KK hk
    simp only at h2 h3
    have hx : x ∈ h := by rw [← h1]; exact List.mem_append.mpr (.inr List.mem_cons_self)
    obtain ⟨a0, a1, a2, a3⟩ := hok x hx
    have lp : pre.length < 1000 := by
      have := congrArg List.length h1
      rw [List.length_append, List.length_cons] at this
      omega
    have lm : m.length < 100000 := by rw [h2, List.length_map]; have := List.length_filter_le (fun x => !isLone x) pre; omega
    have lo : o.length < 100000 := by rw [h3]; have := List.length_filter_le isLone pre; omega
    simp only [dP, iEq, iMod (show (0 : Int) < 2 by decide), wipeD, List.getElem?_cons_zero, List.getElem?_cons_succ, List.set_cons_succ, List.set_cons_zero, List.length_cons, List.length_nil, List.cons_append, List.nil_append, gT, gCons', gN, gNil', sNil, sSeq, sRet, sDrop, sIf, sAsg, sSet, sPar, sFor, dOp, dCall, dCons, dNil, dVar, dVarF, dC, dTup, dLst, dLc, dSeq, dFn, dFnO, dTOp, dTru, truD, dTAnd, dTOr, dTNot, dAnd, dOr, dNot, dIf, leBig, ltBig, Nat.reduceAdd, Nat.reduceLeDiff, if_true, Bool.not_true, Bool.not_false, true_and]
    have step : ∀ (m' o' : List Pile) (x4 x5 x6 x7 x8 : Option D), m' = ((pre ++ [x]).filter fun x => !isLone x).map (turnP l) → o' = (pre ++ [x]).filter isLone → KK [some (.dat (heapD h)), some (.dat (.int l)), some (.own (m'.map dP)), some (.own (o'.map dP)), x4, x5, x6, x7, x8] :=
      fun m' o' x4 x5 x6 x7 x8 q1 q2 => hk ((m', o'), x4, x5, x6, x7, x8) ⟨by simpa using h1, q1, q2⟩
    cases z : isLone x with
    | true =>
      have z2 : (decide (x.1 = x.2.1) && decide (x.1 % 2 = 1)) = true := z
      simp only [Bool.and_eq_true, decide_eq_true_eq] at z2
      simp only [z2.1, decide_eq_true rfl, decide_eq_true (show x.2.1 % 2 = 1 by rw [← z2.1]; exact z2.2), sApp, List.length_map, ltBig, lo, wipeD, List.getElem?_cons_zero, List.getElem?_cons_succ, List.set_cons_succ, List.set_cons_zero, List.length_cons, List.length_nil, List.cons_append, List.nil_append, gT, gCons', gN, gNil', sNil, sSeq, sRet, sDrop, sIf, sAsg, sSet, sPar, sFor, dOp, dCall, dCons, dNil, dVar, dVarF, dC, dTup, dLst, dLc, dSeq, dFn, dFnO, dTOp, dTru, truD, dTAnd, dTOr, dTNot, dAnd, dOr, dNot, dIf, leBig, ltBig, Nat.reduceAdd, Nat.reduceLeDiff, if_true, Bool.not_true, Bool.not_false, true_and]
      refine ⟨⟨_, rfl⟩, ?_⟩
      have := step m (o ++ [x]) (some (.dat (.int x.2.1))) (some (.dat (.int x.2.1))) (some (.dat (.int x.2.2))) x7 x8 (by rw [h2, List.filter_append, List.filter_cons]; simp [z]) (by rw [h3, List.filter_append, List.filter_cons]; simp [z])
      rw [List.map_append] at this
      simp only [List.map_cons, List.map_nil, dP, z2.1] at this
      exact this
    | false =>
      have hb : (-1000000 ≤ x.1) := by omega
      have go : ∀ (B : Env' → Prop) (E : Er'), sSeq (sPar 7 8 (dCons (dOp fIx (dLst (dCons (dOp fSub (dVar 4) (dC (.int 1))) (dCons (dOp fAdd (dVar 4) (dC (.int 1))) dNil))) (dOp fMod (dVar 4) (dC (.int 2)))) (dCons (dOp fIx (dLst (dCons (dOp fAdd (dVar 5) (dC (.int 1))) (dCons (dOp fSub (dVar 5) (dC (.int 1))) dNil))) (dOp fMod (dVar 5) (dC (.int 2)))) dNil))) (sApp 2 (dTup (dCons (dIf (dTOp fGt (dVar 4) (dC (.int 0))) (dVar 7) (dC (.int 0))) (dCons (dIf (dTOp fLt (dVar 5) (dVar 1)) (dVar 8) (dVar 1)) (dCons (dVar 6) dNil)))))
          { nx := KK, ct := KK, bk := B, rt := fun d _ => R d } [some (.dat (heapD h)), some (.dat (.int l)), some (.own (m.map dP)), some (.own (o.map dP)), some (.dat (.int x.1)), some (.dat (.int x.2.1)), some (.dat (.int x.2.2)), x7, x8] E := by
        intro B E
        have q1 : ∃ v, fIx (.list [.int (x.1 - 1), .int (x.1 + 1)]) (.int (x.1 % 2)) = some (.int v) ∧ v = (if x.1 % 2 = 1 then x.1 + 1 else x.1 - 1) := by
          rcases (show x.1 % 2 = 0 ∨ x.1 % 2 = 1 by omega) with e | e
          · rw [e]; exact ⟨_, fIx_l0 _ _, by simp⟩
          · rw [e]; exact ⟨_, fIx_l1 _ _ _, by simp⟩
        have q2 : ∃ v, fIx (.list [.int (x.2.1 + 1), .int (x.2.1 - 1)]) (.int (x.2.1 % 2)) = some (.int v) ∧ v = (if x.2.1 % 2 = 1 then x.2.1 - 1 else x.2.1 + 1) := by
          rcases (show x.2.1 % 2 = 0 ∨ x.2.1 % 2 = 1 by omega) with e | e
          · rw [e]; exact ⟨_, fIx_l0 _ _, by simp⟩
          · rw [e]; exact ⟨_, fIx_l1 _ _ _, by simp⟩
        obtain ⟨v1, f1, g1⟩ := q1
        obtain ⟨v2, f2, g2⟩ := q2
        simp only [sPar, iSub, iAdd, iMod (show (0 : Int) < 2 by decide), f1, f2, sApp, List.length_map, ltBig, lm, iGt, iLt, wipeD, List.getElem?_cons_zero, List.getElem?_cons_succ, List.set_cons_succ, List.set_cons_zero, List.length_cons, List.length_nil, List.cons_append, List.nil_append, gT, gCons', gN, gNil', sNil, sSeq, sRet, sDrop, sIf, sAsg, sSet, sPar, sFor, dOp, dCall, dCons, dNil, dVar, dVarF, dC, dTup, dLst, dLc, dSeq, dFn, dFnO, dTOp, dTru, truD, dTAnd, dTOr, dTNot, dAnd, dOr, dNot, dIf, leBig, ltBig, Nat.reduceAdd, Nat.reduceLeDiff, if_true, Bool.not_true, Bool.not_false, true_and]
        refine ⟨⟨_, rfl⟩, ?_⟩
        have := step (m ++ [turnP l x]) o (some (.dat (.int x.1))) (some (.dat (.int x.2.1))) (some (.dat (.int x.2.2))) (some (.dat (.int v1))) (some (.dat (.int v2))) (by rw [h2, List.filter_append, List.filter_cons]; simp [z]) (by rw [h3, List.filter_append, List.filter_cons]; simp [z])
        rw [List.map_append] at this
        simp only [List.map_cons, List.map_nil, dP, turnP] at this
        have c1 : tb x.1 = if x.1 > 0 then v1 else 0 := by
          unfold tb
          by_cases w1 : x.1 > 0
          · rw [if_pos w1, if_neg (by omega), g1]
          · rw [if_neg w1, if_pos (by omega)]
        have c2 : te l x.2.1 = if x.2.1 < l then v2 else l := by
          unfold te
          by_cases w1 : x.2.1 < l
          · rw [if_pos w1, if_neg (by omega), g2]
          · rw [if_neg w1, if_pos (by omega)]
        rw [c1, c2] at this
        by_cases w1 : x.1 > 0
        · by_cases w2 : x.2.1 < l
          · simp only [decide_eq_true w1, decide_eq_true w2, if_pos w1, if_pos w2, wipeD, List.getElem?_cons_zero, List.getElem?_cons_succ, List.set_cons_succ, List.set_cons_zero, List.length_cons, List.length_nil, List.cons_append, List.nil_append, gT, gCons', gN, gNil', sNil, sSeq, sRet, sDrop, sIf, sAsg, sSet, sPar, sFor, dOp, dCall, dCons, dNil, dVar, dVarF, dC, dTup, dLst, dLc, dSeq, dFn, dFnO, dTOp, dTru, truD, dTAnd, dTOr, dTNot, dAnd, dOr, dNot, dIf, leBig, ltBig, Nat.reduceAdd, Nat.reduceLeDiff, if_true, Bool.not_true, Bool.not_false, true_and] at this ⊢
            exact this
          · simp only [decide_eq_true w1, decide_eq_false w2, if_pos w1, if_neg w2, wipeD, List.getElem?_cons_zero, List.getElem?_cons_succ, List.set_cons_succ, List.set_cons_zero, List.length_cons, List.length_nil, List.cons_append, List.nil_append, gT, gCons', gN, gNil', sNil, sSeq, sRet, sDrop, sIf, sAsg, sSet, sPar, sFor, dOp, dCall, dCons, dNil, dVar, dVarF, dC, dTup, dLst, dLc, dSeq, dFn, dFnO, dTOp, dTru, truD, dTAnd, dTOr, dTNot, dAnd, dOr, dNot, dIf, leBig, ltBig, Nat.reduceAdd, Nat.reduceLeDiff, if_true, Bool.not_true, Bool.not_false, true_and] at this ⊢
            exact this
        · by_cases w2 : x.2.1 < l
          · simp only [decide_eq_false w1, decide_eq_true w2, if_neg w1, if_pos w2, wipeD, List.getElem?_cons_zero, List.getElem?_cons_succ, List.set_cons_succ, List.set_cons_zero, List.length_cons, List.length_nil, List.cons_append, List.nil_append, gT, gCons', gN, gNil', sNil, sSeq, sRet, sDrop, sIf, sAsg, sSet, sPar, sFor, dOp, dCall, dCons, dNil, dVar, dVarF, dC, dTup, dLst, dLc, dSeq, dFn, dFnO, dTOp, dTru, truD, dTAnd, dTOr, dTNot, dAnd, dOr, dNot, dIf, leBig, ltBig, Nat.reduceAdd, Nat.reduceLeDiff, if_true, Bool.not_true, Bool.not_false, true_and] at this ⊢
            exact this
          · simp only [decide_eq_false w1, decide_eq_false w2, if_neg w1, if_neg w2, wipeD, List.getElem?_cons_zero, List.getElem?_cons_succ, List.set_cons_succ, List.set_cons_zero, List.length_cons, List.length_nil, List.cons_append, List.nil_append, gT, gCons', gN, gNil', sNil, sSeq, sRet, sDrop, sIf, sAsg, sSet, sPar, sFor, dOp, dCall, dCons, dNil, dVar, dVarF, dC, dTup, dLst, dLc, dSeq, dFn, dFnO, dTOp, dTru, truD, dTAnd, dTOr, dTNot, dAnd, dOr, dNot, dIf, leBig, ltBig, Nat.reduceAdd, Nat.reduceLeDiff, if_true, Bool.not_true, Bool.not_false, true_and] at this ⊢
            exact this
      by_cases w : x.1 = x.2.1
      · have w2 : ¬ x.1 % 2 = 1 := by
          intro e
          have : isLone x = true := by simp [isLone, ← w, e]
          rw [this] at z; cases z
        simp only [decide_eq_true w, decide_eq_false w2, wipeD, List.getElem?_cons_zero, List.getElem?_cons_succ, List.set_cons_succ, List.set_cons_zero, List.length_cons, List.length_nil, List.cons_append, List.nil_append, gT, gCons', gN, gNil', sNil, sSeq, sRet, sDrop, sIf, sAsg, sSet, sPar, sFor, dOp, dCall, dCons, dNil, dVar, dVarF, dC, dTup, dLst, dLc, dSeq, dFn, dFnO, dTOp, dTru, truD, dTAnd, dTOr, dTNot, dAnd, dOr, dNot, dIf, leBig, ltBig, Nat.reduceAdd, Nat.reduceLeDiff, if_true, Bool.not_true, Bool.not_false, true_and]
        simpa only [iEq, iMod (show (0 : Int) < 2 by decide), wipeD, List.getElem?_cons_zero, List.getElem?_cons_succ, List.set_cons_succ, List.set_cons_zero, List.length_cons, List.length_nil, List.cons_append, List.nil_append, gT, gCons', gN, gNil', sNil, sSeq, sRet, sDrop, sIf, sAsg, sSet, sPar, sFor, dOp, dCall, dCons, dNil, dVar, dVarF, dC, dTup, dLst, dLc, dSeq, dFn, dFnO, dTOp, dTru, truD, dTAnd, dTOr, dTNot, dAnd, dOr, dNot, dIf, leBig, ltBig, Nat.reduceAdd, Nat.reduceLeDiff, if_true, Bool.not_true, Bool.not_false, true_and] using go _ _
      · simp only [decide_eq_false w, wipeD, List.getElem?_cons_zero, List.getElem?_cons_succ, List.set_cons_succ, List.set_cons_zero, List.length_cons, List.length_nil, List.cons_append, List.nil_append, gT, gCons', gN, gNil', sNil, sSeq, sRet, sDrop, sIf, sAsg, sSet, sPar, sFor, dOp, dCall, dCons, dNil, dVar, dVarF, dC, dTup, dLst, dLc, dSeq, dFn, dFnO, dTOp, dTru, truD, dTAnd, dTOr, dTNot, dAnd, dOr, dNot, dIf, leBig, ltBig, Nat.reduceAdd, Nat.reduceLeDiff, if_true, Bool.not_true, Bool.not_false, true_and]
        simpa only [iEq, iMod (show (0 : Int) < 2 by decide), wipeD, List.getElem?_cons_zero, List.getElem?_cons_succ, List.set_cons_succ, List.set_cons_zero, List.length_cons, List.length_nil, List.cons_append, List.nil_append, gT, gCons', gN, gNil', sNil, sSeq, sRet, sDrop, sIf, sAsg, sSet, sPar, sFor, dOp, dCall, dCons, dNil, dVar, dVarF, dC, dTup, dLst, dLc, dSeq, dFn, dFnO, dTOp, dTru, truD, dTAnd, dTOr, dTNot, dAnd, dOr, dNot, dIf, leBig, ltBig, Nat.reduceAdd, Nat.reduceLeDiff, if_true, Bool.not_true, Bool.not_false, true_and] using go _ _
end DD

namespace DD
open PySem L2

def leT (x y : Pile) : Bool := decide (x.1 < y.1 ∨ (x.1 = y.1 ∧ (x.2.1 < y.2.1 ∨ (x.2.1 = y.2.1 ∧ x.2.2 ≤ y.2.2))))
theorem leD_dP (x y : Pile) : leD (dP x) (dP y) = leT x y := by
  show (!PySem.W.dataLt (dP y) (dP x)) = _
  have e : PySem.W.dataLt (dP y) (dP x) = decide ([y.1, y.2.1, y.2.2] < [x.1, x.2.1, x.2.2]) := by
    have := PySem.W.dataLt_ints [y.1, y.2.1, y.2.2] [x.1, x.2.1, x.2.2]
    rw [← this]
    exact PySem.W.dataLt_tuple _ _
  rw [e]
  unfold leT
  by_cases h : x.1 < y.1 ∨ (x.1 = y.1 ∧ (x.2.1 < y.2.1 ∨ (x.2.1 = y.2.1 ∧ x.2.2 ≤ y.2.2)))
  · rw [decide_eq_true h, decide_eq_false]
    · rfl
    · simp only [List.cons_lt_cons_iff, List.not_lt_nil, and_false, or_false]
      omega
  · rw [decide_eq_false h, decide_eq_true]
    · rfl
    · simp only [List.cons_lt_cons_iff, List.not_lt_nil, and_false, or_false]
      omega
theorem sort_piles {h : List Pile} (nd : (h.map keyOf).Nodup) : ∃ g : List Pile, (h.map dP).mergeSort leD = g.map dP ∧ g.Perm h ∧ g.Pairwise ltK := by
  refine ⟨h.mergeSort leT, ?_, List.mergeSort_perm _ _, ?_⟩
  · rw [List.map_mergeSort (s := leD) (f := dP) fun a _ b _ => (leD_dP a b).symm]
  · have p := List.mergeSort_perm h leT
    have nd2 : ((h.mergeSort leT).map keyOf).Nodup := (p.map keyOf).nodup_iff.mpr nd
    have s := List.pairwise_mergeSort (le := leT) (fun a b c h1 h2 => by unfold leT at h1 h2 ⊢; simp only [decide_eq_true_eq] at h1 h2 ⊢; omega) (fun a b => by unfold leT; simp only [Bool.or_eq_true, decide_eq_true_eq]; omega) h
    unfold List.Nodup at nd2
    refine (List.pairwise_and_iff.mpr ⟨s, List.pairwise_map.mp nd2⟩).imp fun {a b} q => ?_
    obtain ⟨q1, q2⟩ := q
    unfold leT at q1
    simp only [decide_eq_true_eq] at q1
    unfold ltK
    rcases q1 with q1 | ⟨q1, q3 | ⟨q3, _⟩⟩
    · exact .inl q1
    · exact .inr ⟨q1, q3⟩
    · exact absurd (show keyOf a = keyOf b by unfold keyOf; rw [q1, q3]) q2
theorem piles_alike (h : List Pile) : PySem.W.AllAlike (h.map dP) := fun d hd d' hd' => by
  obtain ⟨x, _, rfl⟩ := List.mem_map.mp hd
  obtain ⟨y, _, rfl⟩ := List.mem_map.mp hd'
  rfl
theorem piles_sortable (h : List Pile) : PySem.W.Sortable (h.map dP) := .inl fun d hd => by
  obtain ⟨x, _, rfl⟩ := List.mem_map.mp hd
  exact ⟨_, _, rfl⟩
theorem piles_flat (h : List Pile) : ∀ x ∈ h.map dP, x.hasDict = false ∧ x.depth ≤ 30 := fun d hd => by
  obtain ⟨x, _, rfl⟩ := List.mem_map.mp hd
  exact ⟨rfl, by simp [PyData.depth, PyData.depthAll]⟩
theorem h__law_turned_heaps : ∀ ds R Er, ds.length = 4 → f__law_turned_heaps ds R Er → d__law_turned_heaps { nx := fun _ => R .none, rt := fun d _ => R d } (startD 5 ds) Er := by
  intro ds R Er hl ⟨w, G, Q, l, e, lG, lQ, he, hG, hQ, hr⟩
  subst e
  show d__law_turned_heaps _ [some (.dat w), some (.dat (heapD G)), some (.dat (heapD Q)), some (.dat (.int l)), none] Er
  simp only [d__law_turned_heaps, wipeD, List.getElem?_cons_zero, List.getElem?_cons_succ, List.set_cons_succ, List.set_cons_zero, List.length_cons, List.length_nil, List.cons_append, List.nil_append, gT, gCons', gN, gNil', sNil, sSeq, sRet, sDrop, sIf, sAsg, sSet, sPar, sFor, dOp, dCall, dCons, dNil, dVar, dVarF, dC, dTup, dLst, dLc, dSeq, dFn, dFnO, dTOp, dTru, truD, dTAnd, dTOr, dTNot, dAnd, dOr, dNot, dIf, leBig, ltBig, Nat.reduceAdd, Nat.reduceLeDiff, if_true, Bool.not_true, Bool.not_false, true_and]
  refine ⟨G, l, rfl, by omega, he, hG.1, Q, l, rfl, by omega, he, hQ.1, ?_⟩
  have len : ∀ A B : List Pile, A.length ≤ 100 → B.length ≤ 100 → fAdd (.list (((A.filter fun x => !isLone x).map (turnP l)).map dP)) (.list ((B.filter isLone).map dP)) = some (.list ((turnedP l A B).map dP)) := fun A B hA hB => by
    have := List.length_filter_le (fun x => !isLone x) A
    have := List.length_filter_le isLone B
    simp only [fAdd, List.length_map, big]
    rw [if_pos (by omega)]
    simp only [turnedP, List.map_append]
  obtain ⟨a, ea, pa, sa⟩ := sort_piles (turned_nodup he hG hQ)
  obtain ⟨b, eb, pb, sb⟩ := sort_piles (turned_nodup he hQ hG)
  simp only [fIx_l0, fIx_l1, dSortedD, len G Q lG lQ, len Q G lQ lG, wipeD, List.getElem?_cons_zero, List.getElem?_cons_succ, List.set_cons_succ, List.set_cons_zero, List.length_cons, List.length_nil, List.cons_append, List.nil_append, gT, gCons', gN, gNil', sNil, sSeq, sRet, sDrop, sIf, sAsg, sSet, sPar, sFor, dOp, dCall, dCons, dNil, dVar, dVarF, dC, dTup, dLst, dLc, dSeq, dFn, dFnO, dTOp, dTru, truD, dTAnd, dTOr, dTNot, dAnd, dOr, dNot, dIf, leBig, ltBig, Nat.reduceAdd, Nat.reduceLeDiff, if_true, Bool.not_true, Bool.not_false, true_and]
  refine ⟨_, rfl, piles_alike _, piles_sortable _, piles_flat _, ?_⟩
  rw [ea]
  simp only [fListOf_t, wipeD, List.getElem?_cons_zero, List.getElem?_cons_succ, List.set_cons_succ, List.set_cons_zero, List.length_cons, List.length_nil, List.cons_append, List.nil_append, gT, gCons', gN, gNil', sNil, sSeq, sRet, sDrop, sIf, sAsg, sSet, sPar, sFor, dOp, dCall, dCons, dNil, dVar, dVarF, dC, dTup, dLst, dLc, dSeq, dFn, dFnO, dTOp, dTru, truD, dTAnd, dTOr, dTNot, dAnd, dOr, dNot, dIf, leBig, ltBig, Nat.reduceAdd, Nat.reduceLeDiff, if_true, Bool.not_true, Bool.not_false, true_and]
  refine ⟨_, rfl, piles_alike _, piles_sortable _, piles_flat _, ?_⟩
  rw [eb]
  exact hr a b pa sa pb sb
end DD

namespace DD
open PySem L2

theorem sumK_cons (x : Pile) (t : List Pile) (k : Int × Int) : sumK (x :: t) k = (if keyOf x = k then x.2.2 else 0) + sumK t k := by
  unfold sumK
  rw [List.filter_cons]
  by_cases e : keyOf x = k <;> simp [e]
theorem sum_map_add {α : Type} (f g : α → Int) : ∀ l : List α, (l.map fun a => f a + g a).sum = (l.map f).sum + (l.map g).sum
  | [] => rfl
  | a :: t => by simp only [List.map_cons, List.sum_cons, sum_map_add f g t]; omega
theorem sum_zeros {α : Type} : ∀ l : List α, (l.map fun _ => (0 : Int)).sum = 0
  | [] => rfl
  | _ :: t => by rw [List.map_cons, List.sum_cons, sum_zeros t]; rfl
theorem sum_one {ks : List (Int × Int)} (nd : ks.Nodup) {k : Int × Int} (h : k ∈ ks) (v : Int) : (ks.map fun q => if k = q then v else 0).sum = v := by
  induction ks with
  | nil => cases h
  | cons a t ih =>
    rw [List.nodup_cons] at nd
    rw [List.map_cons, List.sum_cons]
    by_cases e : k = a
    · subst e
      have : (t.map fun q => if k = q then v else 0).sum = 0 := by
        have : (t.map fun q => if k = q then v else 0) = t.map fun _ => (0 : Int) := List.map_congr_left fun q hq => if_neg fun z => nd.1 (by rw [z]; exact hq)
        rw [this, sum_zeros]
      rw [if_pos rfl, this]; omega
    · rw [if_neg e, ih nd.2 ((List.mem_cons.mp h).resolve_left e)]; omega
theorem sum_keys {ks : List (Int × Int)} (nd : ks.Nodup) : ∀ {h : List Pile}, (∀ x ∈ h, keyOf x ∈ ks) → (ks.map (sumK h)).sum = oftens h
  | [], _ => by
    have : ks.map (sumK []) = ks.map fun _ => (0 : Int) := List.map_congr_left fun k _ => rfl
    rw [this, sum_zeros]
    rfl
  | x :: t, hm => by
    have e : ks.map (sumK (x :: t)) = ks.map fun k => (if keyOf x = k then x.2.2 else 0) + sumK t k := List.map_congr_left fun k _ => sumK_cons x t k
    rw [e, sum_map_add, sum_one nd (hm x List.mem_cons_self), sum_keys nd (h := t) fun y hy => hm y (List.mem_cons_of_mem _ hy)]
    rfl
theorem IsPiled.oftens_eq {h g : List Pile} (P : IsPiled h g) : oftens g = oftens h := by
  have := sum_keys P.nodup (h := h) fun x hx => (P.keys _).mpr (List.mem_map.mpr ⟨x, hx, rfl⟩)
  rw [← this, List.map_map]
  unfold oftens
  congr 1
  exact List.map_congr_left fun x hx => P.often x hx
theorem sumK_pos {h : List Pile} (h1 : ∀ x ∈ h, 1 ≤ x.2.2) {k : Int × Int} (hk : k ∈ h.map keyOf) : 1 ≤ sumK h k := by
  induction h with
  | nil => cases hk
  | cons x t ih =>
    rw [sumK_cons]
    have hx := h1 x List.mem_cons_self
    have ht : 0 ≤ sumK t k := by
      by_cases e : k ∈ t.map keyOf
      · have := ih (fun y hy => h1 y (List.mem_cons_of_mem _ hy)) e; omega
      · rw [sumK_none e]; omega
    by_cases e : keyOf x = k
    · rw [if_pos e]; omega
    · rw [if_neg e]
      have := ih (fun y hy => h1 y (List.mem_cons_of_mem _ hy)) ((List.mem_cons.mp hk).resolve_left fun z => e z.symm)
      omega
theorem IsPiled.len {h g : List Pile} (P : IsPiled h g) : g.length ≤ h.length := by
  have := List.Nodup.length_le_of_subset P.nodup (l₂ := h.map keyOf) fun k hk => (P.keys k).mp hk
  simpa using this
theorem IsPiled.ok {l : Int} {h g : List Pile} (P : IsPiled h g) (hok : ∀ x ∈ h, PileOk l x) : Heap68 l g := by
  refine ⟨fun x hx => ?_, P.rise⟩
  obtain ⟨y, hy, e⟩ := List.mem_map.mp ((P.keys _).mp (List.mem_map.mpr ⟨x, hx, rfl⟩))
  have e1 : y.1 = x.1 := congrArg (Prod.fst : Int × Int → Int) e
  have e2 : y.2.1 = x.2.1 := congrArg (Prod.snd : Int × Int → Int) e
  obtain ⟨a, b, c, d⟩ := hok y hy
  refine ⟨by omega, by omega, by omega, ?_⟩
  rw [P.often x hx]
  exact sumK_pos (fun z hz => (hok z hz).2.2.2) (List.mem_map.mpr ⟨y, hy, e⟩)
theorem IsPiled.lone {h g : List Pile} (P : IsPiled h g) (hl : ∀ x ∈ h, isLone x = false) : g.any isLone = false := by
  refine List.any_eq_false.mpr fun x hx => ?_
  obtain ⟨y, hy, e⟩ := List.mem_map.mp ((P.keys _).mp (List.mem_map.mpr ⟨x, hx, rfl⟩))
  have e1 : y.1 = x.1 := congrArg (Prod.fst : Int × Int → Int) e
  have e2 : y.2.1 = x.2.1 := congrArg (Prod.snd : Int × Int → Int) e
  have := hl y hy
  unfold isLone at this ⊢
  rw [← e1, ← e2, this]; simp
theorem oftens_ones : ∀ {h : List Pile}, (∀ x ∈ h, x.2.2 = 1) → oftens h = h.length
  | [], _ => rfl
  | x :: t, h => by
    have := oftens_ones (h := t) fun y hy => h y (List.mem_cons_of_mem _ hy)
    have := h x List.mem_cons_self
    simp only [oftens, List.map_cons, List.sum_cons, List.length_cons] at *
    omega
theorem h__law_drawn_heap : ∀ ds R Er, ds.length + 1 = 3 → f__law_drawn_heap ds R Er → d__law_drawn_heap { nx := fun _ => R .none, rt := fun d _ => R d } (startS 9 ds) Er := by
  intro ds R Er hl ⟨k, m, e, k1, k9, hr⟩
  subst e
  show d__law_drawn_heap _ [some .src, some (.dat (.int k)), some (.dat (.bool m)), none, none, none, none, none, none] Er
  have e1 : fMul (.int 2) (.int k) = some (.int (2 * k)) := iMul (by omega) (by omega)
  simp only [d__law_drawn_heap, sParED, dFnS, dRange1, e1, iSub, wipeD, List.getElem?_cons_zero, List.getElem?_cons_succ, List.set_cons_succ, List.set_cons_zero, List.length_cons, List.length_nil, List.cons_append, List.nil_append, gT, gCons', gN, gNil', sNil, sSeq, sRet, sDrop, sIf, sAsg, sSet, sPar, sFor, dOp, dCall, dCons, dNil, dVar, dVarF, dC, dTup, dLst, dLc, dSeq, dFn, dFnO, dTOp, dTru, truD, dTAnd, dTOr, dTNot, dAnd, dOr, dNot, dIf, leBig, ltBig, Nat.reduceAdd, Nat.reduceLeDiff, if_true, Bool.not_true, Bool.not_false, true_and]
  refine ⟨5, rfl, by omega, by omega, fun n n0 n5 => ⟨by omega, by omega, ?_⟩⟩
  rw [rangeD_nat]
  refine for_all natD (fun s : (CM × List Pile) × Option D × Option D × Option D => [some .src, some (.dat (.int k)), some (.dat (.bool m)), some (.obj (.dT (encM s.1.1))), some (.dat (.int (2 * k - 2))), s.2.1, s.2.2.1, s.2.2.2, none])
    (fun pre r s => pre ++ r = List.range n.toNat ∧ Counts s.1.2 s.1.1 ∧ (∀ x ∈ s.1.2, PileOk (2 * k - 2) x ∧ x.2.2 = 1 ∧ (m = false → isLone x = false)) ∧ s.1.2.length ≤ pre.length ∧ okS s.2.1 ∧ okS s.2.2.1 ∧ okS s.2.2.2) ?_ ?_ _ [] (([], []), none, none, none) ⟨rfl, Counts.nil, (fun _ h => by cases h), Nat.le_refl _, okS_none, okS_none, okS_none⟩
  · rintro pre ⟨⟨mm, hh⟩, x5, x6, x7⟩ ⟨h1, C, h3, h4, h5, h6, h7⟩
    rw [List.append_nil] at h1
    have C : Counts hh mm := C
    simp only at h3 h4
    have lh : hh.length ≤ 4 := by
      have := congrArg List.length h1
      rw [List.length_range] at this
      omega
    simp only [dSortedO, wipeD, List.getElem?_cons_zero, List.getElem?_cons_succ, List.set_cons_succ, List.set_cons_zero, List.length_cons, List.length_nil, List.cons_append, List.nil_append, gT, gCons', gN, gNil', sNil, sSeq, sRet, sDrop, sIf, sAsg, sSet, sPar, sFor, dOp, dCall, dCons, dNil, dVar, dVarF, dC, dTup, dLst, dLc, dSeq, dFn, dFnO, dTOp, dTru, truD, dTAnd, dTOr, dTNot, dAnd, dOr, dNot, dIf, leBig, ltBig, Nat.reduceAdd, Nat.reduceLeDiff, if_true, Bool.not_true, Bool.not_false, true_and]
    refine ⟨encM mm, mm.map (·.1), rfl, by unfold encM; rw [List.map_map, List.map_map]; rfl, fun qs pq sq => ?_⟩
    have lq : qs.length ≤ 4 := by rw [pq.length_eq, List.length_map]; have := C.len; omega
    have P := C.piled pq sq
    refine lc_each pairD (fun q => dP (q.1, q.2, sumK hh q)) qs (fun q hq Kt kk1 => ?_) (by simp [big]; omega) ?_
    · have gq : getM mm q = some (sumK hh q) := by
        rw [C.get, if_pos ((C.mem q).mp (pq.mem_iff.mp hq))]
      have e1 : lookT (encM mm) [.inl q.1, .inl q.2] = some (.int (sumK hh q)) := by
        show lookT (encM mm) (keyP q) = _
        rw [look_enc, gq]; rfl
      simp only [pairD, dDGetE, fAdd, wipeD, List.getElem?_cons_zero, List.getElem?_cons_succ, List.set_cons_succ, List.set_cons_zero, List.length_cons, List.length_nil, List.cons_append, List.nil_append, gT, gCons', gN, gNil', sNil, sSeq, sRet, sDrop, sIf, sAsg, sSet, sPar, sFor, dOp, dCall, dCons, dNil, dVar, dVarF, dC, dTup, dLst, dLc, dSeq, dFn, dFnO, dTOp, dTru, truD, dTAnd, dTOr, dTNot, dAnd, dOr, dNot, dIf, leBig, ltBig, Nat.reduceAdd, Nat.reduceLeDiff, if_true, Bool.not_true, Bool.not_false, true_and]
      exact ⟨⟨_, rfl⟩, _, _, _, rfl, rfl, e1, kk1⟩
    · simp only [fListOf_t, wipeD, List.getElem?_cons_zero, List.getElem?_cons_succ, List.set_cons_succ, List.set_cons_zero, List.length_cons, List.length_nil, List.cons_append, List.nil_append, gT, gCons', gN, gNil', sNil, sSeq, sRet, sDrop, sIf, sAsg, sSet, sPar, sFor, dOp, dCall, dCons, dNil, dVar, dVarF, dC, dTup, dLst, dLc, dSeq, dFn, dFnO, dTOp, dTru, truD, dTAnd, dTOr, dTNot, dAnd, dOr, dNot, dIf, leBig, ltBig, Nat.reduceAdd, Nat.reduceLeDiff, if_true, Bool.not_true, Bool.not_false, true_and]
      have := hr _ (P.ok fun x hx => (h3 x hx).1) (by rw [P.oftens_eq, oftens_ones fun x hx => (h3 x hx).2.1]; omega) (Nat.le_trans P.len lh) (fun q => P.lone fun x hx => (h3 x hx).2.2 q)
      simpa only [heapD, List.map_map, Function.comp_def] using this
  · rintro pre j r ⟨⟨mm, hh⟩, x5, x6, x7⟩ ⟨h1, C, h3, h4, h5, h6, h7⟩ KK hk
    have C : Counts hh mm := C
    simp only at h3 h4
    have lp : pre.length < 4 := by
      have := congrArg List.length h1
      rw [List.length_append, List.length_cons, List.length_range] at this
      omega
    have hc := C.len
    have lm : (encM mm).length < 100000 := by unfold encM; rw [List.length_map]; omega
    generalize hT : sIf (dTOr _ _) _ _ = TAIL
    simp only [dFnS, natD, iAdd, iSub, iEq, wipeD, List.getElem?_cons_zero, List.getElem?_cons_succ, List.set_cons_succ, List.set_cons_zero, List.length_cons, List.length_nil, List.cons_append, List.nil_append, gT, gCons', gN, gNil', sNil, sSeq, sRet, sDrop, sIf, sAsg, sSet, sPar, sFor, dOp, dCall, dCons, dNil, dVar, dVarF, dC, dTup, dLst, dLc, dSeq, dFn, dFnO, dTOp, dTru, truD, dTAnd, dTOr, dTNot, dAnd, dOr, dNot, dIf, leBig, ltBig, Nat.reduceAdd, Nat.reduceLeDiff, if_true, Bool.not_true, Bool.not_false, true_and]
    refine ⟨2 * k - 2 + 1, rfl, by omega, by omega, fun a a0 a1 => ⟨2 * k - 2 + 1 - a, rfl, by omega, by omega, fun w w0 w1 => ⟨4, rfl, by omega, by omega, fun v v0 v1 => ?_⟩⟩⟩
    have stay : ∀ y6 y7, okS y6 → okS y7 → KK [some .src, some (.dat (.int k)), some (.dat (.bool m)), some (.obj (.dT (encM mm))), some (.dat (.int (2 * k - 2))), some (.dat (.int (j : Int))), y6, y7, none] :=
      fun y6 y7 o6 o7 => hk ((mm, hh), some (.dat (.int (j : Int))), y6, y7) ⟨by simpa using h1, C, h3, by rw [List.length_append]; show hh.length ≤ _; simp only [List.length_cons, List.length_nil]; omega, okS_dat _, o6, o7⟩
    have put : ∀ b : Int, a ≤ b → b ≤ 2 * k - 2 → (m = true ∨ isLone (a, b, 1) = false) → KK [some .src, some (.dat (.int k)), some (.dat (.bool m)), some (.obj (.dT (encM (addM mm (a, b, 1))))), some (.dat (.int (2 * k - 2))), some (.dat (.int (j : Int))), some (.dat (.int a)), some (.dat (.int b)), none] :=
      fun b b0 b1 hm => hk ((addM mm (a, b, 1), hh ++ [(a, b, 1)]), some (.dat (.int (j : Int))), some (.dat (.int a)), some (.dat (.int b))) ⟨by simpa using h1, C.snoc (a, b, 1), (fun x hx => by
        rcases List.mem_append.mp hx with hx | hx
        · exact h3 x hx
        · rw [List.mem_singleton.mp hx]
          refine ⟨⟨a0, b0, b1, Int.le_refl _⟩, rfl, fun z => ?_⟩
          rcases hm with hm | hm
          · rw [z] at hm; cases hm
          · exact hm), by rw [List.length_append, List.length_append]; show _ + 1 ≤ _ + 1; omega, okS_dat _, okS_dat _, okS_dat _⟩
    have body : ∀ b : Int, a ≤ b → b ≤ 2 * k - 2 → ∀ (ct bk : Env' → Prop) (rt : PyData → Env' → Prop) (E : Er'),
        sIf (dTOr (dTru (dVar 2)) (dTNot (dTru (dFn (fun ds R Er => ds.length = 1 ∧ f__law_is_lone ds R Er) (dCons (dTup (dCons (dVar 6) (dCons (dVar 7) dNil))) dNil))))) (sDSet 3 (dCons (dVar 6) (dCons (dVar 7) dNil)) (dOp fAdd (dDGetD 3 (dCons (dVar 6) (dCons (dVar 7) dNil)) (dC (.int 0))) (dC (.int 1)))) sNil
          { nx := KK, ct := ct, bk := bk, rt := rt } [some .src, some (.dat (.int k)), some (.dat (.bool m)), some (.obj (.dT (encM mm))), some (.dat (.int (2 * k - 2))), some (.dat (.int (j : Int))), some (.dat (.int a)), some (.dat (.int b)), none] E := by
      intro b b0 b1 ct bk rt E
      have e1 : lookT (encM mm) [.inl a, .inl b] = (getM mm (a, b)).map .int := look_enc mm (a, b)
      have e2 : ∀ v, putT (encM mm) [.inl a, .inl b] (.int v) = encM (setM mm (a, b) v) := fun v => put_enc mm (a, b) v
      have e3 : ((getM mm (a, b)).map PyData.int).getD (.int 0) = .int ((getM mm (a, b)).getD 0) := by cases getM mm (a, b) <;> rfl
      have st : (m = true ∨ isLone (a, b, 1) = false) → sDSet 3 (dCons (dVar 6) (dCons (dVar 7) dNil)) (dOp fAdd (dDGetD 3 (dCons (dVar 6) (dCons (dVar 7) dNil)) (dC (.int 0))) (dC (.int 1)))
          { nx := KK, ct := ct, bk := bk, rt := rt } [some .src, some (.dat (.int k)), some (.dat (.bool m)), some (.obj (.dT (encM mm))), some (.dat (.int (2 * k - 2))), some (.dat (.int (j : Int))), some (.dat (.int a)), some (.dat (.int b)), none] E := by
        intro hm
        simp only [sDSet, dDGetD, keysI, keyI, Option.map_some, e1, e2, e3, iAdd, lm, wipeD, List.getElem?_cons_zero, List.getElem?_cons_succ, List.set_cons_succ, List.set_cons_zero, List.length_cons, List.length_nil, List.cons_append, List.nil_append, gT, gCons', gN, gNil', sNil, sSeq, sRet, sDrop, sIf, sAsg, sSet, sPar, sFor, dOp, dCall, dCons, dNil, dVar, dVarF, dC, dTup, dLst, dLc, dSeq, dFn, dFnO, dTOp, dTru, truD, dTAnd, dTOr, dTNot, dAnd, dOr, dNot, dIf, leBig, ltBig, Nat.reduceAdd, Nat.reduceLeDiff, if_true, Bool.not_true, Bool.not_false, true_and]
        refine ⟨⟨_, rfl⟩, ⟨_, rfl⟩, fun i o ho => ?_, put b b0 b1 hm⟩
        match i with
        | 0 => cases ho
        | 1 => cases ho
        | 2 => cases ho
        | 3 => rfl
        | 4 => cases ho
        | 5 => cases ho
        | 6 => cases ho
        | 7 => cases ho
        | 8 => cases ho
        | i + 9 => simp at ho
      cases m with
      | true =>
        simp only [wipeD, List.getElem?_cons_zero, List.getElem?_cons_succ, List.set_cons_succ, List.set_cons_zero, List.length_cons, List.length_nil, List.cons_append, List.nil_append, gT, gCons', gN, gNil', sNil, sSeq, sRet, sDrop, sIf, sAsg, sSet, sPar, sFor, dOp, dCall, dCons, dNil, dVar, dVarF, dC, dTup, dLst, dLc, dSeq, dFn, dFnO, dTOp, dTru, truD, dTAnd, dTOr, dTNot, dAnd, dOr, dNot, dIf, leBig, ltBig, Nat.reduceAdd, Nat.reduceLeDiff, if_true, Bool.not_true, Bool.not_false, true_and]
        exact st (.inl rfl)
      | false =>
        simp only [wipeD, List.getElem?_cons_zero, List.getElem?_cons_succ, List.set_cons_succ, List.set_cons_zero, List.length_cons, List.length_nil, List.cons_append, List.nil_append, gT, gCons', gN, gNil', sNil, sSeq, sRet, sDrop, sIf, sAsg, sSet, sPar, sFor, dOp, dCall, dCons, dNil, dVar, dVarF, dC, dTup, dLst, dLc, dSeq, dFn, dFnO, dTOp, dTru, truD, dTAnd, dTOr, dTNot, dAnd, dOr, dNot, dIf, leBig, ltBig, Nat.reduceAdd, Nat.reduceLeDiff, if_true, Bool.not_true, Bool.not_false, true_and]
        refine ⟨a, b, rfl, ?_⟩
        have ez : (decide (a = b) && decide (a % 2 = 1)) = isLone (a, b, 1) := rfl
        rw [ez]
        cases z : isLone (a, b, 1) with
        | true =>
          simp only [wipeD, List.getElem?_cons_zero, List.getElem?_cons_succ, List.set_cons_succ, List.set_cons_zero, List.length_cons, List.length_nil, List.cons_append, List.nil_append, gT, gCons', gN, gNil', sNil, sSeq, sRet, sDrop, sIf, sAsg, sSet, sPar, sFor, dOp, dCall, dCons, dNil, dVar, dVarF, dC, dTup, dLst, dLc, dSeq, dFn, dFnO, dTOp, dTru, truD, dTAnd, dTOr, dTNot, dAnd, dOr, dNot, dIf, leBig, ltBig, Nat.reduceAdd, Nat.reduceLeDiff, if_true, Bool.not_true, Bool.not_false, true_and]
          exact stay _ _ (okS_dat _) (okS_dat _)
        | false =>
          simp only [wipeD, List.getElem?_cons_zero, List.getElem?_cons_succ, List.set_cons_succ, List.set_cons_zero, List.length_cons, List.length_nil, List.cons_append, List.nil_append, gT, gCons', gN, gNil', sNil, sSeq, sRet, sDrop, sIf, sAsg, sSet, sPar, sFor, dOp, dCall, dCons, dNil, dVar, dVarF, dC, dTup, dLst, dLc, dSeq, dFn, dFnO, dTOp, dTru, truD, dTAnd, dTOr, dTNot, dAnd, dOr, dNot, dIf, leBig, ltBig, Nat.reduceAdd, Nat.reduceLeDiff, if_true, Bool.not_true, Bool.not_false, true_and]
          exact st (.inr z)
    by_cases hv : v = 0
    · simp only [iEq, decide_eq_true hv, wipeD, List.getElem?_cons_zero, List.getElem?_cons_succ, List.set_cons_succ, List.set_cons_zero, List.length_cons, List.length_nil, List.cons_append, List.nil_append, gT, gCons', gN, gNil', sNil, sSeq, sRet, sDrop, sIf, sAsg, sSet, sPar, sFor, dOp, dCall, dCons, dNil, dVar, dVarF, dC, dTup, dLst, dLc, dSeq, dFn, dFnO, dTOp, dTru, truD, dTAnd, dTOr, dTNot, dAnd, dOr, dNot, dIf, leBig, ltBig, Nat.reduceAdd, Nat.reduceLeDiff, if_true, Bool.not_true, Bool.not_false, true_and]
      subst hT
      exact body a (by omega) (by omega) _ _ _ _
    · simp only [iEq, decide_eq_false hv, wipeD, List.getElem?_cons_zero, List.getElem?_cons_succ, List.set_cons_succ, List.set_cons_zero, List.length_cons, List.length_nil, List.cons_append, List.nil_append, gT, gCons', gN, gNil', sNil, sSeq, sRet, sDrop, sIf, sAsg, sSet, sPar, sFor, dOp, dCall, dCons, dNil, dVar, dVarF, dC, dTup, dLst, dLc, dSeq, dFn, dFnO, dTOp, dTru, truD, dTAnd, dTOr, dTNot, dAnd, dOr, dNot, dIf, leBig, ltBig, Nat.reduceAdd, Nat.reduceLeDiff, if_true, Bool.not_true, Bool.not_false, true_and]
      subst hT
      exact body (a + w) (by omega) (by omega) _ _ _ _
end DD

namespace DD
open PySem L2

def oddHs (l : Int) : List PyData := [.none, .list [], .int 5, .str (Str.ofString ""), .tuple [.tuple [.int 0, .int 0, .int 0]], .tuple [.tuple [.int 0, .int 0]], .tuple [.tuple [.int 0, .int (l + 1), .int 1]], .tuple [.tuple [.int (0 - 1), .int 0, .int 1]], .tuple [.list [.int 0, .int 0, .int 1]]]
  ++ [.tuple [.tuple [.int l, .int (l - 1), .int 1]], .tuple [.tuple [.int 0, .int 0, .int 9]]]
  ++ [.tuple [.tuple [.int 0, .int 0, .int 1], .tuple [.int 0, .int 0, .int 1]], .tuple [.tuple [.int 0, .int 0, .bool true]], .tuple [.tuple [.bool false, .int 0, .int 1]], .list [.tuple [.int 0, .int 0, .int 1]], .dict [(.tuple [.int 0, .int 0], .int 1)], .tuple [.tuple [.int 0, .int 0, .int 1, .int 1]]]
def oddMore : List PyData := [.tuple [.tuple [.int 1, .int 2, .int 1], .tuple [.int 0, .int 2, .int 1]], .tuple [.tuple [.int 2, .int 1, .int 1]], .tuple [.tuple [.int 0, .int 2, .int 1], .tuple [.int 0, .int 1, .int 1]], .tuple [.tuple [.int 0, .int 0, .int 5], .tuple [.int 0, .int 2, .int 4]]]
def lenB (n : Nat) : PyData → Bool
  | .tuple xs => decide (xs.length ≤ n)
  | _ => true
def oddB (k : Int) (d : PyData) : Bool := !isHp (2 * k - 1) d && gsB 50 100000 d && lenB 10 d
theorem oddB_ok {k : Int} {d : PyData} (h : oddB k d = true) : OddHeap k d := by
  simp only [oddB, Bool.and_eq_true, Bool.not_eq_true'] at h
  refine ⟨h.1.1, gsB_gs h.1.2, fun xs e => ?_⟩
  subst e
  exact of_decide_eq_true h.2
theorem odd_all : ∀ k ∈ [(1 : Int), 2, 3, 4, 5, 6, 7, 8, 9], ((oddHs (2 * k - 2)).all (oddB k) && (decide (2 * k - 2 ≤ 0) || oddMore.all (oddB k))) = true := by decide +kernel
theorem one_nine {k : Int} (h1 : 1 ≤ k) (h9 : k ≤ 9) : k ∈ [(1 : Int), 2, 3, 4, 5, 6, 7, 8, 9] := by
  simp only [List.mem_cons, List.not_mem_nil, or_false]
  omega
theorem h__law_odd_heap : ∀ ds R Er, ds.length + 1 = 2 → f__law_odd_heap ds R Er → d__law_odd_heap { nx := fun _ => R .none, rt := fun d _ => R d } (startS 4 ds) Er := by
  intro ds R Er hl ⟨k, e, k1, k9, hr⟩
  subst e
  show d__law_odd_heap _ [some .src, some (.dat (.int k)), none, none] Er
  have e1 : fMul (.int 2) (.int k) = some (.int (2 * k)) := iMul (by omega) (by omega)
  have oa := odd_all k (one_nine k1 k9)
  simp only [Bool.and_eq_true, Bool.or_eq_true, decide_eq_true_eq] at oa
  have o1 : ∀ d ∈ oddHs (2 * k - 2), R d := fun d hd => hr d (oddB_ok (List.all_eq_true.mp oa.1 d hd))
  simp only [d__law_odd_heap, dDict1T, keysI, keyI, fAdd, e1, iSub, iGt, Option.map_some, wipeD, List.getElem?_cons_zero, List.getElem?_cons_succ, List.set_cons_succ, List.set_cons_zero, List.length_cons, List.length_nil, List.cons_append, List.nil_append, gT, gCons', gN, gNil', sNil, sSeq, sRet, sDrop, sIf, sAsg, sSet, sPar, sFor, dOp, dCall, dCons, dNil, dVar, dVarF, dC, dTup, dLst, dLc, dSeq, dFn, dFnO, dTOp, dTru, truD, dTAnd, dTOr, dTNot, dAnd, dOr, dNot, dIf, leBig, ltBig, Nat.reduceAdd, Nat.reduceLeDiff, if_true, Bool.not_true, Bool.not_false, true_and]
  refine ⟨[.inl 0, .inl 0], rfl, rfl, ?_⟩
  by_cases hk : 2 * k - 2 > 0
  · have o2 : ∀ d ∈ oddHs (2 * k - 2) ++ oddMore, R d := fun d hd => by
      rcases List.mem_append.mp hd with hd | hd
      · exact o1 d hd
      · exact hr d (oddB_ok (List.all_eq_true.mp (oa.2.resolve_left (by omega)) d hd))
    simp only [decide_eq_true hk, dFnS, wipeD, List.getElem?_cons_zero, List.getElem?_cons_succ, List.set_cons_succ, List.set_cons_zero, List.length_cons, List.length_nil, List.cons_append, List.nil_append, gT, gCons', gN, gNil', sNil, sSeq, sRet, sDrop, sIf, sAsg, sSet, sPar, sFor, dOp, dCall, dCons, dNil, dVar, dVarF, dC, dTup, dLst, dLc, dSeq, dFn, dFnO, dTOp, dTru, truD, dTAnd, dTOr, dTNot, dAnd, dOr, dNot, dIf, leBig, ltBig, Nat.reduceAdd, Nat.reduceLeDiff, if_true, Bool.not_true, Bool.not_false, true_and]
    exact ⟨_, .inl rfl, by simp, by simp, fun d hd => o2 d hd⟩
  · simp only [decide_eq_false hk, dFnS, wipeD, List.getElem?_cons_zero, List.getElem?_cons_succ, List.set_cons_succ, List.set_cons_zero, List.length_cons, List.length_nil, List.cons_append, List.nil_append, gT, gCons', gN, gNil', sNil, sSeq, sRet, sDrop, sIf, sAsg, sSet, sPar, sFor, dOp, dCall, dCons, dNil, dVar, dVarF, dC, dTup, dLst, dLc, dSeq, dFn, dFnO, dTOp, dTru, truD, dTAnd, dTOr, dTNot, dAnd, dOr, dNot, dIf, leBig, ltBig, Nat.reduceAdd, Nat.reduceLeDiff, if_true, Bool.not_true, Bool.not_false, true_and]
    exact ⟨_, .inl rfl, by simp, by simp, fun d hd => o1 d hd⟩
end DD

namespace DD
open PySem L2

theorem rises_of : ∀ {h : List Pile}, h.Pairwise ltK → risesB h = true
  | [], _ => rfl
  | [_], _ => rfl
  | x :: y :: r, p => by
    have p' := List.pairwise_cons.mp p
    simp only [risesB, Bool.and_eq_true, decide_eq_true_eq]
    exact ⟨p'.1 y List.mem_cons_self, rises_of p'.2⟩
theorem covP_le {h : List Pile} (h1 : ∀ x ∈ h, 1 ≤ x.2.2) (k : Nat) : covP h k ≤ oftens h := (oftens_filter (p := fun x => decide (x.1 ≤ (k : Int)) && decide ((k : Int) ≤ x.2.1)) h1).1
theorem often_le {h : List Pile} (h1 : ∀ x ∈ h, 1 ≤ x.2.2) {x : Pile} (hx : x ∈ h) : x.2.2 ≤ oftens h := by
  induction h with
  | nil => cases hx
  | cons y t ih =>
    have := h1 y List.mem_cons_self
    have o := (oftens_filter (p := fun _ => true) (h := t) fun z hz => h1 z (List.mem_cons_of_mem _ hz)).2
    simp only [oftens, List.map_cons, List.sum_cons] at o ⊢
    rcases List.mem_cons.mp hx with rfl | hx
    · omega
    · have := ih (fun z hz => h1 z (List.mem_cons_of_mem _ hz)) hx
      simp only [oftens] at this
      omega
theorem map_back (h : List Pile) : (h.map dP).map pileOf = h := by
  rw [List.map_map]
  conv => rhs; rw [← List.map_id h]
  exact List.map_congr_left fun _ _ => rfl
theorem heap_ok {l : Int} {h : List Pile} (H : Heap68 l h) (ho : oftens h ≤ 8) : isHp (l + 1) (heapD h) = true := by
  have h1 : ∀ x ∈ h, 1 ≤ x.2.2 := fun x hx => (H.1 x hx).2.2.2
  have ep := map_back h
  simp only [isHp, ep, Bool.and_eq_true, Bool.not_eq_true', rises_of H.2, true_and]
  refine ⟨?_, ?_⟩
  · simp only [List.all_map, List.all_eq_true]
    intro x hx
    obtain ⟨a, b, c, d⟩ := H.1 x hx
    have := often_le h1 hx
    simp only [Function.comp, isPile, isStr, isFT, Bool.and_eq_true, decide_eq_true_eq]
    omega
  · refine List.any_eq_false.mpr fun k _ => ?_
    have := covP_le h1 k
    simp only [decide_eq_true_eq]
    omega
def LenOk (v : PyData) : Prop := ∀ xs, v = .tuple xs → xs.length ≤ 1000
theorem len_heap {h : List Pile} (n : h.length ≤ 1000) : LenOk (heapD h) := fun xs e => by cases e; rw [List.length_map]; exact n
theorem len_none : LenOk .none := fun _ e => by cases e
theorem len_odd {k : Int} {d : PyData} (h : OddHeap k d) : LenOk d := fun xs e => Nat.le_trans (h.2.2 xs e) (by decide)
theorem len_nil : LenOk (.tuple []) := fun xs e => by cases e; decide
theorem t_way (ca : CA) {w n g r : PyData} {R : PyData → Prop} {Er : Er'} (w1 : wOk w = true) (lg : LenOk g) (lr : LenOk r) (h : isWay w = false) (he : Er.w ca.c_BadWay w) : f_turned_over ca [w, n, g, r] R Er :=
  ⟨w, n, g, r, rfl, w1, lg, lr, fun _ => he, no_b h⟩
theorem t_num (ca : CA) {w n g r : PyData} {R : PyData → Prop} {Er : Er'} (w1 : wOk w = true) (lg : LenOk g) (lr : LenOk r) (h : isWay w = true) (hn : isFT n 1 9 = false) (he : Er.w ca.c_BadNumber n) : f_turned_over ca [w, n, g, r] R Er :=
  ⟨w, n, g, r, rfl, w1, lg, lr, no_b h, fun _ => ⟨fun _ => he, fun k e a b => by subst e; simp only [isFT, a, b, decide_true, Bool.and_self] at hn; cases hn⟩⟩
theorem t_g (ca : CA) {w g r : PyData} {k : Int} {R : PyData → Prop} {Er : Er'} (w1 : wOk w = true) (lg : LenOk g) (lr : LenOk r) (h : isWay w = true) (a : 1 ≤ k) (b : k ≤ 9) (t : tideB (isWord "meets" w) k g = false) (he : Er.w ca.c_BadHeap g) : f_turned_over ca [w, .int k, g, r] R Er := by
  refine ⟨w, .int k, g, r, rfl, w1, lg, lr, no_b h, fun _ => ⟨no_b (isFT_in a b), fun k' e _ _ => ?_⟩⟩
  cases e
  exact ⟨fun _ => he, no_b t⟩
where isFT_in {k l h : Int} (a : l ≤ k) (b : k ≤ h) : isFT (.int k) l h = true := by simp only [isFT, a, b, decide_true, Bool.and_self]
theorem t_r (ca : CA) {w g r : PyData} {k : Int} {R : PyData → Prop} {Er : Er'} (w1 : wOk w = true) (lg : LenOk g) (lr : LenOk r) (h : isWay w = true) (a : 1 ≤ k) (b : k ≤ 9) (t : tideB (isWord "meets" w) k g = true) (t2 : tideB (isWord "unions" w) k r = false) (he : Er.w ca.c_BadHeap r) : f_turned_over ca [w, .int k, g, r] R Er := by
  refine ⟨w, .int k, g, r, rfl, w1, lg, lr, no_b h, fun _ => ⟨no_b (t_g.isFT_in a b), fun k' e _ _ => ?_⟩⟩
  cases e
  exact ⟨no_b t, fun _ => ⟨fun _ => he, no_b t2⟩⟩
theorem dP_inj {x y : Pile} (h : dP x = dP y) : x = y := by
  simp only [dP, PyData.tuple.injEq, List.cons.injEq, PyData.int.injEq, and_true] at h
  exact Prod.ext h.1 (Prod.ext h.2.1 h.2.2)
theorem heapD_inj : ∀ {g h : List Pile}, heapD g = heapD h → g = h := by
  intro g h e
  simp only [heapD, PyData.tuple.injEq] at e
  induction g generalizing h with
  | nil => cases h with
    | nil => rfl
    | cons _ _ => cases e
  | cons x t ih => cases h with
    | nil => cases e
    | cons y u =>
      rw [List.map_cons, List.map_cons, List.cons.injEq] at e
      rw [dP_inj e.1, ih e.2]
theorem t_ok (ca : CA) {w : PyData} {G Q : List Pile} {k : Int} {R : PyData → Prop} {Er : Er'} (w1 : wOk w = true) (lg : G.length ≤ 1000) (lr : Q.length ≤ 1000) (h : isWay w = true) (a : 1 ≤ k) (b : k ≤ 9) (t : tideB (isWord "meets" w) k (heapD G) = true) (t2 : tideB (isWord "unions" w) k (heapD Q) = true)
    (hr : ∀ a b : List Pile, IsPiled (turnedP (2 * k - 2) G Q) a → IsPiled (turnedP (2 * k - 2) Q G) b → R (.tuple [heapD a, heapD b])) : f_turned_over ca [w, .int k, heapD G, heapD Q] R Er := by
  refine ⟨w, .int k, _, _, rfl, w1, len_heap lg, len_heap lr, no_b h, fun _ => ⟨no_b (t_g.isFT_in a b), fun k' e _ _ => ?_⟩⟩
  cases e
  refine ⟨no_b t, fun _ => ⟨no_b t2, fun _ G' Q' eg eq => ?_⟩⟩
  rw [← heapD_inj eg, ← heapD_inj eq]
  exact hr
theorem tide_of {l : Int} {m : Bool} {h : List Pile} {k : Int} (e : l = 2 * k - 2) (H : Heap68 l h) (ho : oftens h ≤ 8) (hm : m = false → h.any isLone = false) : tideB m k (heapD h) = true := by
  have := heap_ok H ho
  rw [show l + 1 = 2 * k - 1 by omega] at this
  have ep : pilesOf (heapD h) = h := by
    exact map_back h
  unfold tideB
  rw [this, ep]
  cases m with
  | true => rfl
  | false => rw [hm rfl]; rfl
theorem tide_odd {m : Bool} {k : Int} {d : PyData} (h : isHp (2 * k - 1) d = false) : tideB m k d = false := by
  unfold tideB; rw [h]; rfl
theorem tide_lone {k : Int} {h : List Pile} (e : h.any isLone = true) : tideB false k (heapD h) = false := by
  have ep : pilesOf (heapD h) = h := by
    exact map_back h
  unfold tideB
  rw [ep, e]
  simp
end DD

namespace DD
open PySem L2

theorem seq_app {i : Nat} {P : Addr} {q told : Str} {cs : List (Addr × Str)} {dt : DE} {rest : DS} {D : DEnds} {ρ : Env'} {Er : Er'} {acc : List PyData} (h1 : ρ[i]? = some (some (.own acc))) (h2 : acc.length < 100000) (h3 : (P, q) ∈ Er.T)
    (h : dt (hide ρ) (fun d _ => rest D (ρ.set i (some (.own (acc ++ [.list [.str told, d]])))) Er) ⟨fun C d => ∃ w, (C, w) ∈ cs ∧ rest D (ρ.set i (some (.own (acc ++ [.list [.str w, d]])))) Er, []⟩) : sSeq (sApp i (dCaught P q told cs dt)) rest D ρ Er := by
  simp only [sSeq, sApp, dCaught, h1, ltBig, h2, true_and]
  exact ⟨⟨_, rfl⟩, h3, h⟩
theorem seq_new {i : Nat} {P : Addr} {q told : Str} {cs : List (Addr × Str)} {dt : DE} {rest : DS} {D : DEnds} {ρ : Env'} {Er : Er'} (h3 : (P, q) ∈ Er.T)
    (h : dt (hide ρ) (fun d _ => rest D (ρ.set i (some (.own [.list [.str told, d]]))) Er) ⟨fun C d => ∃ w, (C, w) ∈ cs ∧ rest D (ρ.set i (some (.own [.list [.str w, d]]))) Er, []⟩) : sSeq (sSetO i (dCons (dCaught P q told cs dt) dNil)) rest D ρ Er := by
  simp only [sSeq, sSetO, dCaught, dCons, dNil, leBig, List.length_cons, List.length_nil, Nat.reduceAdd, Nat.reduceLeDiff, true_and]
  exact ⟨h3, h⟩
theorem seq_same {args : DA} {rest : DS} {D : DEnds} {ρ : Env'} {Er : Er'} (d : PyData) {ρ' : Env'} (ha : ∀ R, R [d, d] ρ' → args ρ R Er) (hg : Gs 60 16777216 d) (h : rest D ρ' Er) :
    sSeq (sIf (dTNot (dTru (dFn (fun ds R Er => ds.length = 2 ∧ f__law_same ds R Er) args))) (sRet (dC (.bool false))) sNil) rest D ρ Er := by
  simp only [wipeD, List.getElem?_cons_zero, List.getElem?_cons_succ, List.set_cons_succ, List.set_cons_zero, List.length_cons, List.length_nil, List.cons_append, List.nil_append, gT, gCons', gN, gNil', sNil, sSeq, sRet, sDrop, sIf, sAsg, sSet, sPar, sFor, dOp, dCall, dCons, dNil, dVar, dVarF, dC, dTup, dLst, dLc, dSeq, dFn, dFnO, dTOp, dTru, truD, dTAnd, dTOr, dTNot, dAnd, dOr, dNot, dIf, leBig, ltBig, Nat.reduceAdd, Nat.reduceLeDiff, if_true, Bool.not_true, Bool.not_false, true_and]
  refine ha _ ⟨rfl, d, rfl, hg, ?_⟩
  simp only [wipeD, List.getElem?_cons_zero, List.getElem?_cons_succ, List.set_cons_succ, List.set_cons_zero, List.length_cons, List.length_nil, List.cons_append, List.nil_append, gT, gCons', gN, gNil', sNil, sSeq, sRet, sDrop, sIf, sAsg, sSet, sPar, sFor, dOp, dCall, dCons, dNil, dVar, dVarF, dC, dTup, dLst, dLc, dSeq, dFn, dFnO, dTOp, dTru, truD, dTAnd, dTOr, dTNot, dAnd, dOr, dNot, dIf, leBig, ltBig, Nat.reduceAdd, Nat.reduceLeDiff, if_true, Bool.not_true, Bool.not_false, true_and]
  exact h
theorem ret_same {args : DA} {D : DEnds} {ρ : Env'} {Er : Er'} (d : PyData) {ρ' : Env'} (ha : ∀ R, R [d, d] ρ' → args ρ R Er) (hg : Gs 60 16777216 d) (h : D.rt (.bool true) ρ') :
    sRet (dFn (fun ds R Er => ds.length = 2 ∧ f__law_same ds R Er) args) D ρ Er := by
  simp only [wipeD, List.getElem?_cons_zero, List.getElem?_cons_succ, List.set_cons_succ, List.set_cons_zero, List.length_cons, List.length_nil, List.cons_append, List.nil_append, gT, gCons', gN, gNil', sNil, sSeq, sRet, sDrop, sIf, sAsg, sSet, sPar, sFor, dOp, dCall, dCons, dNil, dVar, dVarF, dC, dTup, dLst, dLc, dSeq, dFn, dFnO, dTOp, dTru, truD, dTAnd, dTOr, dTNot, dAnd, dOr, dNot, dIf, leBig, ltBig, Nat.reduceAdd, Nat.reduceLeDiff, if_true, Bool.not_true, Bool.not_false, true_and]
  exact ha _ ⟨rfl, d, rfl, hg, h⟩
theorem gs_two {k m : Nat} {u v : PyData} (hu : Gs k m u) (hv : Gs k m v) : Gs (k + 1) (2 * (m + 2) + 10) (.list [u, v]) := gs_list (n := 2) (fun d hd => by
  simp only [List.mem_cons, List.not_mem_nil, or_false] at hd
  rcases hd with rfl | rfl
  · exact hu
  · exact hv) (by simp)
theorem gs_told {w v : PyData} (hw : leafD w = true) (hv : Gs 52 1000000 v) : Gs 53 2000014 (.list [w, v]) :=
  gs_two (k := 52) (m := 1000000) ((gs_leaf hw).mono (by omega) (by omega)) hv
theorem gs_tolds {xs : List PyData} (h : ∀ x ∈ xs, Gs 53 2000014 x) (hl : xs.length ≤ 8) : Gs 60 16777216 (.list xs) :=
  (gs_list (k := 53) (m := 2000014) (n := 8) h hl).mono (by omega) (by omega)
def oddWays : List PyData := [.none, .str (Str.ofString "union"), .str (Str.ofString ""), .tuple [.str (Str.ofString "unions")], .int 0, .bool true, .list [.str (Str.ofString "meets")]]
def oddNs : List PyData := [.none, .int 0, .int 10, .str (Str.ofString "1"), .bool true, .tuple [.int 1], .int (0 - 1), .int (10 ^ 30), .list []]
theorem oddWays_ok : ∀ w ∈ oddWays, wOk w = true ∧ isWay w = false ∧ Gs 50 100000 w := fun w hw => by
  have h : (wOk w && !isWay w && gsB 50 100000 w) = true := all_of (p := fun w => wOk w && !isWay w && gsB 50 100000 w) (by decide +kernel) hw
  simp only [Bool.and_eq_true, Bool.not_eq_true'] at h
  exact ⟨h.1.1, h.1.2, gsB_gs h.2⟩
theorem oddNs_ok : ∀ w ∈ oddNs, isFT w 1 9 = false ∧ Gs 50 100000 w := fun w hw => by
  have h : (!isFT w 1 9 && gsB 50 100000 w) = true := all_of (p := fun w => !isFT w 1 9 && gsB 50 100000 w) (by decide +kernel) hw
  simp only [Bool.and_eq_true, Bool.not_eq_true'] at h
  exact ⟨h.1, gsB_gs h.2⟩
theorem fines_ok : ∀ w ∈ [PyData.str (Str.ofString "unions"), .str (Str.ofString "meets")], wOk w = true ∧ isWay w = true := fun w hw => by
  have h : (wOk w && isWay w) = true := all_of (p := fun w => wOk w && isWay w) (by decide +kernel) hw
  simpa only [Bool.and_eq_true] using h
theorem gs_i {i : Int} (h0 : -1000 ≤ i) (h1 : i ≤ 1000) : Gs 0 2000 (.int i) := gs_leaf (leaf_int h0 h1)
theorem gs_pile {x : Pile} (h : -1000 ≤ x.1 ∧ x.1 ≤ 1000 ∧ -1000 ≤ x.2.1 ∧ x.2.1 ≤ 1000 ∧ -1000 ≤ x.2.2 ∧ x.2.2 ≤ 1000) : Gs 1 6016 (dP x) := by
  refine (gs_tuple (k := 0) (m := 2000) (n := 3) (fun d hd => ?_) (by simp)).mono (by omega) (by omega)
  simp only [List.mem_cons, List.not_mem_nil, or_false] at hd
  rcases hd with rfl | rfl | rfl
  · exact gs_i h.1 h.2.1
  · exact gs_i h.2.2.1 h.2.2.2.1
  · exact gs_i h.2.2.2.2.1 h.2.2.2.2.2
theorem gs_heap {h : List Pile} (hl : h.length ≤ 10) (hx : ∀ x ∈ h, -1000 ≤ x.1 ∧ x.1 ≤ 1000 ∧ -1000 ≤ x.2.1 ∧ x.2.1 ≤ 1000 ∧ -1000 ≤ x.2.2 ∧ x.2.2 ≤ 1000) : Gs 2 60190 (heapD h) :=
  (gs_tuple (k := 1) (m := 6016) (n := 10) (fun d hd => by
    obtain ⟨x, hx', rfl⟩ := List.mem_map.mp hd
    exact gs_pile (hx x hx')) (by rw [List.length_map]; exact hl)).mono (by omega) (by omega)
theorem tide_nil {m : Bool} {k : Int} (k1 : 1 ≤ k) : tideB m k (.tuple []) = true := by
  have := tide_of (l := 2 * k - 2) (m := m) (h := []) (k := k) rfl ⟨(fun _ h => by cases h), .nil⟩ (by decide) (fun _ => rfl)
  exact this
theorem h__law_refused_right (ca : CA) : ∀ ds R, ds.length + 1 = 2 → f__law_refused_right ca ds R ⟨fun _ _ => False, tabs ca⟩ → d__law_refused_right ca { nx := fun _ => R .none, rt := fun d _ => R d } (startS 9 ds) ⟨fun _ _ => False, tabs ca⟩ := by
  intro ds R hl ⟨k, e, k1, k9, hr⟩
  subst e
  show d__law_refused_right ca _ [some .src, some (.dat (.int k)), none, none, none, none, none, none, none] _
  have inT : (ca.p__law_refused_right, ("_law_refused_right.<locals>.<lambda>" : Str)) ∈ tabs ca := by simp [tabs]
  unfold d__law_refused_right
  generalize hT : sSeq (sSetO 6 _) _ = TAIL
  have e2 : fPow (.int 10) (.int 30) = some (.int (10 ^ 30)) := by kernel_rfl
  simp only [dFnS, iSub, e2, wipeD, List.getElem?_cons_zero, List.getElem?_cons_succ, List.set_cons_succ, List.set_cons_zero, List.length_cons, List.length_nil, List.cons_append, List.nil_append, gT, gCons', gN, gNil', sNil, sSeq, sRet, sDrop, sIf, sAsg, sSet, sPar, sFor, dOp, dCall, dCons, dNil, dVar, dVarF, dC, dTup, dLst, dLc, dSeq, dFn, dFnO, dTOp, dTru, truD, dTAnd, dTOr, dTNot, dAnd, dOr, dNot, dIf, leBig, ltBig, Nat.reduceAdd, Nat.reduceLeDiff, if_true, Bool.not_true, Bool.not_false, true_and]
  refine ⟨oddWays, .inl rfl, by simp [oddWays], by simp [oddWays], fun w hw => ?_⟩
  obtain ⟨w1, w2, w3⟩ := oddWays_ok w hw
  refine ⟨oddNs, .inl rfl, by simp [oddNs], by simp [oddNs], fun n hn => ?_⟩
  obtain ⟨n1, n2⟩ := oddNs_ok n hn
  refine ⟨k, rfl, k1, k9, fun odd ho => ?_⟩
  have lo := len_odd ho
  refine ⟨_, .inl rfl, by simp, by simp, fun fine hf => ?_⟩
  obtain ⟨f1, f2⟩ := fines_ok fine hf
  subst hT
  have le : ∀ {f : PyData}, f ∈ [PyData.str (Str.ofString "unions"), PyData.str (Str.ofString "meets")] → ∃ m, isWord "meets" f = m ∧ isWord "unions" f = !m := fun {f} h => by
    simp only [List.mem_cons, List.not_mem_nil, or_false] at h
    rcases h with rfl | rfl
    · exact ⟨false, by decide +kernel, by decide +kernel⟩
    · exact ⟨true, by decide +kernel, by decide +kernel⟩
  have go := ho.2.1
  have oo : ∀ m, tideB m k odd = false := fun m => tide_odd ho.1
  refine seq_new inT ?_
  show _ ∧ f_turned_over ca [w, n, odd, odd] _ _
  refine ⟨rfl, t_way ca w1 lo lo w2 ⟨_, .head _, ?_⟩⟩
  refine seq_app rfl ?_ inT ?_
  · simp only [List.length_append, List.length_cons, List.length_nil]; decide
  show _ ∧ f_turned_over ca [fine, n, odd, .none] _ _
  refine ⟨rfl, t_num ca f1 lo len_none f2 n1 ⟨_, .tail _ (.head _), ?_⟩⟩
  refine seq_app rfl ?_ inT ?_
  · simp only [List.length_append, List.length_cons, List.length_nil]; decide
  show _ ∧ f_turned_over ca [fine, .int k, odd, .none] _ _
  refine ⟨rfl, t_g ca f1 lo len_none f2 k1 k9 (oo _) ⟨_, .tail _ (.tail _ (.head _)), ?_⟩⟩
  refine seq_app rfl ?_ inT ?_
  · simp only [List.length_append, List.length_cons, List.length_nil]; decide
  show _ ∧ _ ∧ f_turned_over ca [fine, .int k, .tuple [], odd] _ _
  refine ⟨Nat.zero_le _, rfl, t_r ca f1 len_nil lo f2 k1 k9 (tide_nil k1) (oo _) ⟨_, .tail _ (.tail _ (.head _)), ?_⟩⟩
  refine seq_same (.list [.list [.str (Str.ofString "way"), w], .list [.str (Str.ofString "number"), n], .list [.str (Str.ofString "heap"), odd], .list [.str (Str.ofString "heap"), odd]]) (fun R h => by simp only [wipeD, List.getElem?_cons_zero, List.getElem?_cons_succ, List.set_cons_succ, List.set_cons_zero, List.length_cons, List.length_nil, List.cons_append, List.nil_append, gT, gCons', gN, gNil', sNil, sSeq, sRet, sDrop, sIf, sAsg, sSet, sPar, sFor, dOp, dCall, dCons, dNil, dVar, dVarF, dC, dTup, dLst, dLc, dSeq, dFn, dFnO, dTOp, dTru, truD, dTAnd, dTOr, dTNot, dAnd, dOr, dNot, dIf, leBig, ltBig, Nat.reduceAdd, Nat.reduceLeDiff, if_true, Bool.not_true, Bool.not_false, true_and]; exact h) (gs_tolds (fun x hx => ?_) (by simp)) ?_
  · simp only [List.mem_cons, List.not_mem_nil, or_false] at hx
    rcases hx with rfl | rfl | rfl | rfl
    · exact gs_told (by decide +kernel) (w3.mono (by omega) (by omega))
    · exact gs_told (by decide +kernel) (n2.mono (by omega) (by omega))
    · exact gs_told (by decide +kernel) (go.mono (by omega) (by omega))
    · exact gs_told (by decide +kernel) (go.mono (by omega) (by omega))
  generalize hT : sSeq (sSetO 6 _) _ = TAIL
  simp only [dFnS, iLt, iSub, iAdd, wipeD, List.getElem?_cons_zero, List.getElem?_cons_succ, List.set_cons_succ, List.set_cons_zero, List.length_cons, List.length_nil, List.cons_append, List.nil_append, gT, gCons', gN, gNil', sNil, sSeq, sRet, sDrop, sIf, sAsg, sSet, sPar, sFor, dOp, dCall, dCons, dNil, dVar, dVarF, dC, dTup, dLst, dLc, dSeq, dFn, dFnO, dTOp, dTru, truD, dTAnd, dTOr, dTNot, dAnd, dOr, dNot, dIf, leBig, ltBig, Nat.reduceAdd, Nat.reduceLeDiff, if_true, Bool.not_true, Bool.not_false, true_and]
  by_cases hk : k < 2
  · simp only [decide_eq_true hk, wipeD, List.getElem?_cons_zero, List.getElem?_cons_succ, List.set_cons_succ, List.set_cons_zero, List.length_cons, List.length_nil, List.cons_append, List.nil_append, gT, gCons', gN, gNil', sNil, sSeq, sRet, sDrop, sIf, sAsg, sSet, sPar, sFor, dOp, dCall, dCons, dNil, dVar, dVarF, dC, dTup, dLst, dLc, dSeq, dFn, dFnO, dTOp, dTru, truD, dTAnd, dTOr, dTNot, dAnd, dOr, dNot, dIf, leBig, ltBig, Nat.reduceAdd, Nat.reduceLeDiff, if_true, Bool.not_true, Bool.not_false, true_and]
    exact hr
  simp only [decide_eq_false hk, wipeD, List.getElem?_cons_zero, List.getElem?_cons_succ, List.set_cons_succ, List.set_cons_zero, List.length_cons, List.length_nil, List.cons_append, List.nil_append, gT, gCons', gN, gNil', sNil, sSeq, sRet, sDrop, sIf, sAsg, sSet, sPar, sFor, dOp, dCall, dCons, dNil, dVar, dVarF, dC, dTup, dLst, dLc, dSeq, dFn, dFnO, dTOp, dTru, truD, dTAnd, dTOr, dTNot, dAnd, dOr, dNot, dIf, leBig, ltBig, Nat.reduceAdd, Nat.reduceLeDiff, if_true, Bool.not_true, Bool.not_false, true_and]
  refine ⟨k - 1, rfl, by omega, by omega, fun c c0 c1 => ?_⟩
  have e3 : fMul (.int 2) (.int c) = some (.int (2 * c)) := iMul (by omega) (by omega)
  have e4 : fMul (.int 2) (.int k) = some (.int (2 * k)) := iMul (by omega) (by omega)
  simp only [iAdd, iSub, e3, e4, wipeD, List.getElem?_cons_zero, List.getElem?_cons_succ, List.set_cons_succ, List.set_cons_zero, List.length_cons, List.length_nil, List.cons_append, List.nil_append, gT, gCons', gN, gNil', sNil, sSeq, sRet, sDrop, sIf, sAsg, sSet, sPar, sFor, dOp, dCall, dCons, dNil, dVar, dVarF, dC, dTup, dLst, dLc, dSeq, dFn, dFnO, dTOp, dTru, truD, dTAnd, dTOr, dTNot, dAnd, dOr, dNot, dIf, leBig, ltBig, Nat.reduceAdd, Nat.reduceLeDiff, if_true, Bool.not_true, Bool.not_false, true_and]
  refine ⟨3, rfl, by omega, by omega, fun f f0 f3 => ?_⟩
  simp only [iAdd, iSub, e3, e4, wipeD, List.getElem?_cons_zero, List.getElem?_cons_succ, List.set_cons_succ, List.set_cons_zero, List.length_cons, List.length_nil, List.cons_append, List.nil_append, gT, gCons', gN, gNil', sNil, sSeq, sRet, sDrop, sIf, sAsg, sSet, sPar, sFor, dOp, dCall, dCons, dNil, dVar, dVarF, dC, dTup, dLst, dLc, dSeq, dFn, dFnO, dTOp, dTru, truD, dTAnd, dTOr, dTNot, dAnd, dOr, dNot, dIf, leBig, ltBig, Nat.reduceAdd, Nat.reduceLeDiff, if_true, Bool.not_true, Bool.not_false, true_and]
  generalize hL : ([(0, 2 * c + 1 - 1, 1), (2 * c + 1, 2 * c + 1, 1 + f), (2 * c + 1 + 1, 2 * k - 2, 2)] : List Pile) = L
  have eL : PyData.tuple [.tuple [.int 0, .int (2 * c + 1 - 1), .int 1], .tuple [.int (2 * c + 1), .int (2 * c + 1), .int (1 + f)], .tuple [.int (2 * c + 1 + 1), .int (2 * k - 2), .int 2]] = heapD L := by rw [← hL]; rfl
  rw [eL]
  have lone : L.any isLone = true := by
    rw [← hL]
    refine List.any_eq_true.mpr ⟨(2 * c + 1, 2 * c + 1, 1 + f), by simp, ?_⟩
    simp only [isLone, decide_true, Bool.true_and, decide_eq_true_eq]
    omega
  have lL : L.length ≤ 10 := by rw [← hL]; simp
  have gL : Gs 2 60190 (heapD L) := gs_heap lL fun x hx => by
    rw [← hL] at hx
    simp only [List.mem_cons, List.not_mem_nil, or_false] at hx
    rcases hx with rfl | rfl | rfl <;> simp only <;> omega
  clear eL
  subst hT
  refine seq_new inT ?_
  show _ ∧ f_turned_over ca [.str (Str.ofString "unions"), .int k, heapD L, odd] _ _
  refine ⟨rfl, t_g ca (by decide +kernel) (len_heap (by omega)) lo (by decide +kernel) k1 k9 (by rw [show isWord "meets" (.str (Str.ofString "unions")) = false by decide +kernel]; exact tide_lone lone) ⟨_, .tail _ (.tail _ (.head _)), ?_⟩⟩
  refine seq_app rfl ?_ inT ?_
  · simp only [List.length_append, List.length_cons, List.length_nil]; decide
  show _ ∧ _ ∧ f_turned_over ca [.str (Str.ofString "meets"), .int k, .tuple [], heapD L] _ _
  refine ⟨Nat.zero_le _, rfl, t_r ca (by decide +kernel) len_nil (len_heap (by omega)) (by decide +kernel) k1 k9 (tide_nil k1) (by rw [show isWord "unions" (.str (Str.ofString "meets")) = false by decide +kernel]; exact tide_lone lone) ⟨_, .tail _ (.tail _ (.head _)), ?_⟩⟩
  refine ret_same (.list [.list [.str (Str.ofString "heap"), heapD L], .list [.str (Str.ofString "heap"), heapD L]]) (fun R h => by simp only [fMul, wipeD, List.getElem?_cons_zero, List.getElem?_cons_succ, List.set_cons_succ, List.set_cons_zero, List.length_cons, List.length_nil, List.cons_append, List.nil_append, gT, gCons', gN, gNil', sNil, sSeq, sRet, sDrop, sIf, sAsg, sSet, sPar, sFor, dOp, dCall, dCons, dNil, dVar, dVarF, dC, dTup, dLst, dLc, dSeq, dFn, dFnO, dTOp, dTru, truD, dTAnd, dTOr, dTNot, dAnd, dOr, dNot, dIf, leBig, ltBig, Nat.reduceAdd, Nat.reduceLeDiff, if_true, Bool.not_true, Bool.not_false, true_and]; exact h) (gs_tolds (fun x hx => ?_) (by simp)) hr
  simp only [List.mem_cons, List.not_mem_nil, or_false] at hx
  rcases hx with rfl | rfl <;> exact gs_told (by decide +kernel) (gL.mono (by omega) (by omega))
end DD

namespace DD
open PySem L2

theorem seq_same0 {args : DA} {rest : DS} {D : DEnds} {ρ : Env'} {Er : Er'} (d : PyData) (ha : ∀ R : List PyData → Env' → Prop, R [d, d] ρ → args ρ R Er) (hg : Gs 60 16777216 d) (h : rest D ρ Er) :
    sSeq (sIf (dTNot (dTru (dFn (fun ds R Er => ds.length = 2 ∧ f__law_same ds R Er) args))) (sRet (dC (.bool false))) sNil) rest D ρ Er := seq_same d ha hg h
theorem perm_sum : ∀ {l m : List Int}, l.Perm m → l.sum = m.sum := fun {l m} p => by
  induction p with
  | nil => rfl
  | cons x _ ih => simp only [List.sum_cons, ih]
  | swap x y l => simp only [List.sum_cons]; omega
  | trans _ _ a b => exact a.trans b
theorem h__law_crowded_right (ca : CA) : ∀ ds R, ds.length + 1 = 2 → f__law_crowded_right ca ds R ⟨fun _ _ => False, tabs ca⟩ → d__law_crowded_right ca { nx := fun _ => R .none, rt := fun d _ => R d } (startS 8 ds) ⟨fun _ _ => False, tabs ca⟩ := by
  intro ds R hl ⟨k, e, k2, k9, hr⟩
  subst e
  show d__law_crowded_right ca _ [some .src, some (.dat (.int k)), none, none, none, none, none, none] _
  have inT : (ca.p__law_crowded_right, ("_law_crowded_right.<locals>.<lambda>" : Str)) ∈ tabs ca := by simp [tabs]
  unfold d__law_crowded_right
  generalize hT : sSeq (sIf (dTNot _) _ _) _ = TAIL
  have e4 : fMul (.int 2) (.int k) = some (.int (2 * k)) := iMul (by omega) (by omega)
  simp only [sPar, dFnS, iSub, e4, wipeD, List.getElem?_cons_zero, List.getElem?_cons_succ, List.set_cons_succ, List.set_cons_zero, List.length_cons, List.length_nil, List.cons_append, List.nil_append, gT, gCons', gN, gNil', sNil, sSeq, sRet, sDrop, sIf, sAsg, sSet, sPar, sFor, dOp, dCall, dCons, dNil, dVar, dVarF, dC, dTup, dLst, dLc, dSeq, dFn, dFnO, dTOp, dTru, truD, dTAnd, dTOr, dTNot, dAnd, dOr, dNot, dIf, leBig, ltBig, Nat.reduceAdd, Nat.reduceLeDiff, if_true, Bool.not_true, Bool.not_false, true_and]
  refine ⟨k - 1, rfl, by omega, by omega, fun c c0 c1 => ?_⟩
  have e3 : fMul (.int 2) (.int c) = some (.int (2 * c)) := iMul (by omega) (by omega)
  simp only [iAdd, e3, wipeD, List.getElem?_cons_zero, List.getElem?_cons_succ, List.set_cons_succ, List.set_cons_zero, List.length_cons, List.length_nil, List.cons_append, List.nil_append, gT, gCons', gN, gNil', sNil, sSeq, sRet, sDrop, sIf, sAsg, sSet, sPar, sFor, dOp, dCall, dCons, dNil, dVar, dVarF, dC, dTup, dLst, dLc, dSeq, dFn, dFnO, dTOp, dTru, truD, dTAnd, dTOr, dTNot, dAnd, dOr, dNot, dIf, leBig, ltBig, Nat.reduceAdd, Nat.reduceLeDiff, if_true, Bool.not_true, Bool.not_false, true_and]
  refine ⟨5, rfl, by omega, by omega, fun f f0 f1 => ?_⟩
  simp only [iAdd, wipeD, List.getElem?_cons_zero, List.getElem?_cons_succ, List.set_cons_succ, List.set_cons_zero, List.length_cons, List.length_nil, List.cons_append, List.nil_append, gT, gCons', gN, gNil', sNil, sSeq, sRet, sDrop, sIf, sAsg, sSet, sPar, sFor, dOp, dCall, dCons, dNil, dVar, dVarF, dC, dTup, dLst, dLc, dSeq, dFn, dFnO, dTOp, dTru, truD, dTAnd, dTOr, dTNot, dAnd, dOr, dNot, dIf, leBig, ltBig, Nat.reduceAdd, Nat.reduceLeDiff, if_true, Bool.not_true, Bool.not_false, true_and]
  refine ⟨4, rfl, by omega, by omega, fun g g0 g1 => ?_⟩
  simp only [dSortedD, iAdd, wipeD, List.getElem?_cons_zero, List.getElem?_cons_succ, List.set_cons_succ, List.set_cons_zero, List.length_cons, List.length_nil, List.cons_append, List.nil_append, gT, gCons', gN, gNil', sNil, sSeq, sRet, sDrop, sIf, sAsg, sSet, sPar, sFor, dOp, dCall, dCons, dNil, dVar, dVarF, dC, dTup, dLst, dLc, dSeq, dFn, dFnO, dTOp, dTru, truD, dTAnd, dTOr, dTNot, dAnd, dOr, dNot, dIf, leBig, ltBig, Nat.reduceAdd, Nat.reduceLeDiff, if_true, Bool.not_true, Bool.not_false, true_and]
  generalize hA : ((2 * c + 1, 2 * c + 1, 4 + f) : Pile) = A
  generalize hB : ((0, 2 * k - 2, 5 + g) : Pile) = B
  have dA : PyData.tuple [.int (2 * c + 1), .int (2 * c + 1), .int (4 + f)] = dP A := by rw [← hA]
  have dB : PyData.tuple [.int 0, .int (2 * k - 2), .int (5 + g)] = dP B := by rw [← hB]
  have okA : PileOk (2 * k - 2) A := by rw [← hA]; refine ⟨?_, ?_, ?_, ?_⟩ <;> (simp only; omega)
  have okB : PileOk (2 * k - 2) B := by rw [← hB]; refine ⟨?_, ?_, ?_, ?_⟩ <;> (simp only; omega)
  have lA : isLone A = true := by rw [← hA]; simp only [isLone, decide_true, Bool.true_and, decide_eq_true_eq]; omega
  have lB : isLone B = false := by rw [← hB]; simp only [isLone]; rw [decide_eq_false (by omega)]; rfl
  have tB : turnP (2 * k - 2) B = B := by rw [← hB]; simp [turnP, tb, te]
  have oA : A.2.2 ≤ 8 ∧ 4 ≤ A.2.2 := by rw [← hA]; simp only; omega
  have oB : B.2.2 ≤ 8 ∧ 5 ≤ B.2.2 := by rw [← hB]; simp only; omega
  have cov : A.1 = A.2.1 ∧ B.1 ≤ A.1 ∧ A.2.1 ≤ B.2.1 ∧ B.1 ≠ A.1 := by rw [← hA, ← hB]; refine ⟨rfl, ?_, ?_, ?_⟩ <;> (simp only; omega)
  rw [dA, dB]
  have nd : ([A, B].map keyOf).Nodup := by
    simp only [List.map_cons, List.map_nil, List.nodup_cons, List.mem_singleton, List.not_mem_nil, not_false_iff, List.nodup_nil, and_self, and_true]
    intro z
    have : A.1 = B.1 := congrArg (Prod.fst : Int × Int → Int) z
    omega
  obtain ⟨q, eq, pq, sq⟩ := sort_piles nd
  refine ⟨_, rfl, piles_alike [A, B], piles_sortable [A, B], piles_flat [A, B], ?_⟩
  rw [show [dP A, dP B] = [A, B].map dP from rfl, eq]
  simp only [fListOf_t, wipeD, List.getElem?_cons_zero, List.getElem?_cons_succ, List.set_cons_succ, List.set_cons_zero, List.length_cons, List.length_nil, List.cons_append, List.nil_append, gT, gCons', gN, gNil', sNil, sSeq, sRet, sDrop, sIf, sAsg, sSet, sPar, sFor, dOp, dCall, dCons, dNil, dVar, dVarF, dC, dTup, dLst, dLc, dSeq, dFn, dFnO, dTOp, dTru, truD, dTAnd, dTOr, dTNot, dAnd, dOr, dNot, dIf, leBig, ltBig, Nat.reduceAdd, Nat.reduceLeDiff, if_true, Bool.not_true, Bool.not_false, true_and]
  have lq : q.length = 2 := pq.length_eq
  have gA : -1000 ≤ A.1 ∧ A.1 ≤ 1000 ∧ -1000 ≤ A.2.1 ∧ A.2.1 ≤ 1000 ∧ -1000 ≤ A.2.2 ∧ A.2.2 ≤ 1000 := by obtain ⟨a, b, c, d⟩ := okA; omega
  have gB : -1000 ≤ B.1 ∧ B.1 ≤ 1000 ∧ -1000 ≤ B.2.1 ∧ B.2.1 ≤ 1000 ∧ -1000 ≤ B.2.2 ∧ B.2.2 ≤ 1000 := by obtain ⟨a, b, c, d⟩ := okB; omega
  have gq : Gs 2 60190 (heapD q) := gs_heap (by omega) fun x hx => by
    rcases List.mem_cons.mp (pq.mem_iff.mp hx) with rfl | hx
    · exact gA
    · rw [List.mem_singleton.mp hx]; exact gB
  have one : ∀ P, PileOk (2 * k - 2) P → Heap68 (2 * k - 2) [P] := fun P h => ⟨fun x hx => by rw [List.mem_singleton.mp hx]; exact h, List.pairwise_singleton _ _⟩
  have oone : ∀ P : Pile, P.2.2 ≤ 8 → oftens [P] ≤ 8 := fun P h => by simpa [oftens] using h
  have t1 : turnedP (2 * k - 2) [B] [A] = [B, A] := by simp [turnedP, lA, lB, tB]
  have t2 : turnedP (2 * k - 2) [A] [B] = [] := by simp [turnedP, lA, lB]
  have ndBA : ([B, A].map keyOf).Nodup := by
    simp only [List.map_cons, List.map_nil, List.nodup_cons, List.mem_singleton, List.not_mem_nil, not_false_iff, List.nodup_nil, and_self, and_true]
    intro z
    have : B.1 = A.1 := congrArg (Prod.fst : Int × Int → Int) z
    omega
  have isq : ∀ a, IsPiled [B, A] a → a = q := fun a h => rise_uniq h.rise sq ((h.perm ndBA).trans ((List.Perm.swap A B []).trans pq.symm))
  have isn : ∀ b, IsPiled [] b → b = [] := fun b h => List.Perm.eq_nil (h.perm List.nodup_nil)
  have wm : isWord "meets" (.str (Str.ofString "unions")) = false ∧ isWord "unions" (.str (Str.ofString "unions")) = true ∧ isWord "meets" (.str (Str.ofString "meets")) = true ∧ isWord "unions" (.str (Str.ofString "meets")) = false := by decide +kernel
  have noq : isHp (2 * k - 1) (heapD q) = false := by
    have hb : highB (2 * k - 1).toNat ((q.map dP).map pileOf) = true := by
      rw [map_back]
      refine List.any_eq_true.mpr ⟨A.1.toNat, List.mem_range.mpr ?_, ?_⟩
      · obtain ⟨a, b, c, d⟩ := okA; omega
      · have a0 := okA.1
        have e : covP q A.1.toNat = A.2.2 + B.2.2 := by
          have p2 : ((q.filter fun x => decide (x.1 ≤ (A.1.toNat : Int)) && decide ((A.1.toNat : Int) ≤ x.2.1)).map (·.2.2)).Perm (([A, B].filter fun x => decide (x.1 ≤ (A.1.toNat : Int)) && decide ((A.1.toNat : Int) ≤ x.2.1)).map (·.2.2)) := (pq.filter _).map _
          unfold covP
          rw [perm_sum p2]
          have c1 : (decide (A.1 ≤ (A.1.toNat : Int)) && decide ((A.1.toNat : Int) ≤ A.2.1)) = true := by simp; omega
          have c2 : (decide (B.1 ≤ (A.1.toNat : Int)) && decide ((A.1.toNat : Int) ≤ B.2.1)) = true := by simp; omega
          rw [List.filter_cons, if_pos c1, List.filter_cons, if_pos c2]
          simp
        rw [e]
        exact decide_eq_true (by omega)
    unfold isHp
    simp only [hb]
    simp
  subst hT
  refine seq_same0 (.tuple [heapD q, .tuple []]) (fun R h => ?_) ?_ ?_
  · simp only [wipeD, List.getElem?_cons_zero, List.getElem?_cons_succ, List.set_cons_succ, List.set_cons_zero, List.length_cons, List.length_nil, List.cons_append, List.nil_append, gT, gCons', gN, gNil', sNil, sSeq, sRet, sDrop, sIf, sAsg, sSet, sPar, sFor, dOp, dCall, dCons, dNil, dVar, dVarF, dC, dTup, dLst, dLc, dSeq, dFn, dFnO, dTOp, dTru, truD, dTAnd, dTOr, dTNot, dAnd, dOr, dNot, dIf, leBig, ltBig, Nat.reduceAdd, Nat.reduceLeDiff, if_true, Bool.not_true, Bool.not_false, true_and]
    refine t_ok ca (G := [B]) (Q := [A]) (by decide +kernel) (by simp) (by simp) (by decide +kernel) (by omega) k9 (tide_of rfl (one B okB) (oone B oB.1) fun _ => by simp [lB]) (tide_of rfl (one A okA) (oone A oA.1) fun z => by rw [wm.2.1] at z; cases z) fun a b pa pb => ?_
    rw [t1] at pa
    rw [t2] at pb
    rw [isq a pa, isn b pb]
    exact h
  · exact (gs_tuple (k := 2) (m := 60190) (n := 2) (fun x hx => by
      simp only [List.mem_cons, List.not_mem_nil, or_false] at hx
      rcases hx with rfl | rfl
      · exact gq
      · exact gsB_gs (by decide +kernel)) (by simp)).mono (by omega) (by omega)
  refine seq_same0 (.tuple [.tuple [], heapD q]) (fun R h => ?_) ?_ ?_
  · simp only [wipeD, List.getElem?_cons_zero, List.getElem?_cons_succ, List.set_cons_succ, List.set_cons_zero, List.length_cons, List.length_nil, List.cons_append, List.nil_append, gT, gCons', gN, gNil', sNil, sSeq, sRet, sDrop, sIf, sAsg, sSet, sPar, sFor, dOp, dCall, dCons, dNil, dVar, dVarF, dC, dTup, dLst, dLc, dSeq, dFn, dFnO, dTOp, dTru, truD, dTAnd, dTOr, dTNot, dAnd, dOr, dNot, dIf, leBig, ltBig, Nat.reduceAdd, Nat.reduceLeDiff, if_true, Bool.not_true, Bool.not_false, true_and]
    refine t_ok ca (G := [A]) (Q := [B]) (by decide +kernel) (by simp) (by simp) (by decide +kernel) (by omega) k9 (tide_of rfl (one A okA) (oone A oA.1) fun z => by rw [wm.2.2.1] at z; cases z) (tide_of rfl (one B okB) (oone B oB.1) fun _ => by simp [lB]) fun a b pa pb => ?_
    rw [t2] at pa
    rw [t1] at pb
    rw [isq b pb, isn a pa]
    exact h
  · exact (gs_tuple (k := 2) (m := 60190) (n := 2) (fun x hx => by
      simp only [List.mem_cons, List.not_mem_nil, or_false] at hx
      rcases hx with rfl | rfl
      · exact gsB_gs (by decide +kernel)
      · exact gq) (by simp)).mono (by omega) (by omega)
  refine seq_new inT ?_
  show _ ∧ _ ∧ f_turned_over ca [.str (Str.ofString "meets"), .int k, heapD q, .tuple []] _ _
  refine ⟨Nat.zero_le _, rfl, t_g ca (by decide +kernel) (len_heap (by omega)) len_nil (by decide +kernel) (by omega) k9 (tide_odd noq) ⟨_, .tail _ (.tail _ (.head _)), ?_⟩⟩
  refine seq_app rfl ?_ inT ?_
  · simp only [List.length_append, List.length_cons, List.length_nil]; decide
  show _ ∧ _ ∧ f_turned_over ca [.str (Str.ofString "unions"), .int k, .tuple [], heapD q] _ _
  refine ⟨Nat.zero_le _, rfl, t_r ca (by decide +kernel) len_nil (len_heap (by omega)) (by decide +kernel) (by omega) k9 (tide_nil (by omega)) (tide_odd noq) ⟨_, .tail _ (.tail _ (.head _)), ?_⟩⟩
  refine ret_same (.list [.list [.str (Str.ofString "heap"), heapD q], .list [.str (Str.ofString "heap"), heapD q]]) (fun R h => by simp only [fMul, wipeD, List.getElem?_cons_zero, List.getElem?_cons_succ, List.set_cons_succ, List.set_cons_zero, List.length_cons, List.length_nil, List.cons_append, List.nil_append, gT, gCons', gN, gNil', sNil, sSeq, sRet, sDrop, sIf, sAsg, sSet, sPar, sFor, dOp, dCall, dCons, dNil, dVar, dVarF, dC, dTup, dLst, dLc, dSeq, dFn, dFnO, dTOp, dTru, truD, dTAnd, dTOr, dTNot, dAnd, dOr, dNot, dIf, leBig, ltBig, Nat.reduceAdd, Nat.reduceLeDiff, if_true, Bool.not_true, Bool.not_false, true_and]; exact h) (gs_tolds (fun x hx => ?_) (by simp)) hr
  simp only [List.mem_cons, List.not_mem_nil, or_false] at hx
  rcases hx with rfl | rfl <;> exact gs_told (by decide +kernel) (gq.mono (by omega) (by omega))
end DD

namespace DD
open PySem L2

theorem isWord_of {w : PyData} (hw : w ∈ [PyData.str (Str.ofString "unions"), PyData.str (Str.ofString "meets")]) : ∃ m : Bool, fEq w (.str (Str.ofString "unions")) = some (.bool (!m)) ∧ fEq w (.str (Str.ofString "meets")) = some (.bool m) ∧ isWord "unions" w = !m ∧ isWord "meets" w = m := by
  simp only [List.mem_cons, List.not_mem_nil, or_false] at hw
  rcases hw with rfl | rfl
  · exact ⟨false, by kernel_rfl, by kernel_rfl, by decide +kernel, by decide +kernel⟩
  · exact ⟨true, by kernel_rfl, by kernel_rfl, by decide +kernel, by decide +kernel⟩
theorem gs_heap68 {l : Int} {h : List Pile} (H : Heap68 l h) (l0 : l ≤ 16) (n : h.length ≤ 10) (o : oftens h ≤ 8) : Gs 2 60190 (heapD h) := gs_heap n fun x hx => by
  obtain ⟨a, b, c, d⟩ := H.1 x hx
  have := often_le (fun y hy => (H.1 y hy).2.2.2) hx
  omega
theorem gs_pairT {a b : PyData} (ha : Gs 2 60190 a) (hb : Gs 2 60190 b) : Gs 60 16777216 (.tuple [a, b]) :=
  (gs_tuple (k := 2) (m := 60190) (n := 2) (fun x hx => by
    simp only [List.mem_cons, List.not_mem_nil, or_false] at hx
    rcases hx with rfl | rfl
    · exact ha
    · exact hb) (by simp)).mono (by omega) (by omega)
theorem h_law (ca : CA) : ∀ ns, ok_law ns → d_law ca { nx := fun _ => False, rt := fun d _ => d = .bool true } (some (.scr ns) :: List.replicate (9 - 1) none) ⟨fun _ _ => False, tabs ca⟩ := by
  intro ns ⟨hb, hl⟩
  show d_law ca _ [some (.scr ns), none, none, none, none, none, none, none, none] _
  simp only [d_law, sFor, dRange1, dLenO, maxI, minI, true_and, startD, startS, startN, dVar, dVarF, dC, dOp, dTru, truD, dTOp, dIsN, dNotN, dTIsN, dTNotN, dTAnd, dTOr, dTNot, dAnd, dOr, dNot, dIf, dChain, dTChain, dSl, dNoPart, dPart, dNil, dCons, dTup, dLst, dCall, dFn, dFnS, sNil, sSeq, sRet, sDrop, sIf, gN, gNil', gCons', gT, sAsg, sSet, sPar, sAug, sSetO, dSeq, dSrc0, dSrc1, sSrc0, sSrc1, dIsi, fAdd, fSub, fMul, fMod, fDiv, fLt, fLe, fGt, fGe, dI2, dB2, dI2c, fIsB, fNotB, isNonD, fLen, fMax2, fMin2, fInt, fListOf, fTupOf, List.getElem?_cons_zero, List.getElem?_cons_succ, List.set_cons_zero, List.set_cons_succ, List.length_cons, List.length_nil, Bool.not_true, Bool.not_false, leBig, ltBig, Nat.reduceAdd, Nat.reduceLeDiff, List.cons_append, List.nil_append, if_true, sRaise, wipeD]
  refine ⟨by omega, by omega, ?_⟩
  refine for_ind (fun r ρ => ∃ a1 a3 a4 a5 a6 a7 a8 : Option D, ρ = [some (.scr ns), a1, none, a3, a4, a5, a6, a7, a8] ∧ okS a1 ∧ okS a3 ∧ okS a4 ∧ okS a5 ∧ okS a6 ∧ okS a7 ∧ okS a8 ∧ ∀ d ∈ r, ∃ i : Nat, d = .int (i : Int) ∧ i < 3) ?_ ?_ _ _ ?_
  · rintro ρ ⟨a1, a3, a4, a5, a6, a7, a8, rfl, _⟩
    simp only [wipeD, List.getElem?_cons_zero, List.getElem?_cons_succ, List.set_cons_succ, List.set_cons_zero, List.length_cons, List.length_nil, List.cons_append, List.nil_append, gT, gCons', gN, gNil', sNil, sSeq, sRet, sDrop, sIf, sAsg, sSet, sPar, sFor, dOp, dCall, dCons, dNil, dVar, dVarF, dC, dTup, dLst, dLc, dSeq, dFn, dFnO, dTOp, dTru, truD, dTAnd, dTOr, dTNot, dAnd, dOr, dNot, dIf, leBig, ltBig, Nat.reduceAdd, Nat.reduceLeDiff, if_true, Bool.not_true, Bool.not_false, true_and]
    refine t_ok ca (w := .str (Str.ofString "meets")) (G := []) (Q := []) (k := 1) (by decide +kernel) (by simp) (by simp) (by decide +kernel) (by omega) (by omega) (tide_nil (by omega)) (tide_nil (by omega)) fun a b pa pb => ?_
    rw [List.Perm.eq_nil (pa.perm List.nodup_nil), List.Perm.eq_nil (pb.perm List.nodup_nil)]
    have e : fEq (.tuple [heapD [], heapD []]) (.tuple [.tuple [], .tuple []]) = some (.bool true) := by kernel_rfl
    simp only [e, wipeD, List.getElem?_cons_zero, List.getElem?_cons_succ, List.set_cons_succ, List.set_cons_zero, List.length_cons, List.length_nil, List.cons_append, List.nil_append, gT, gCons', gN, gNil', sNil, sSeq, sRet, sDrop, sIf, sAsg, sSet, sPar, sFor, dOp, dCall, dCons, dNil, dVar, dVarF, dC, dTup, dLst, dLc, dSeq, dFn, dFnO, dTOp, dTru, truD, dTAnd, dTOr, dTNot, dAnd, dOr, dNot, dIf, leBig, ltBig, Nat.reduceAdd, Nat.reduceLeDiff, if_true, Bool.not_true, Bool.not_false, true_and]
  · rintro d r ρ ⟨a1, a3, a4, a5, a6, a7, a8, rfl, h1, h3, h4, h5, h6, h7, h8, hd⟩ ih
    obtain ⟨i, rfl, hi⟩ := hd d List.mem_cons_self
    simp only [forGo, gN, List.set_cons_succ, List.set_cons_zero]
    have hno : noOwn [some (.scr ns), some (.dat (.int (i : Int))), none, a3, a4, a5, a6, a7, a8] := noOwn_cons (okS_scr ns) (noOwn_cons (okS_dat _) (noOwn_cons okS_none (noOwn_cons h3 (noOwn_cons h4 (noOwn_cons h5 (noOwn_cons h6 (noOwn_cons h7 (noOwn_cons h8 noOwn_nil))))))))
    have last : ∀ b3 b4 b5 b6 b7 b8 : Option D, okS b3 → okS b4 → okS b5 → okS b6 → okS b7 → okS b8 → unSrc [some (.scr ns), some (.dat (.int (i : Int))), some .src, b3, b4, b5, b6, b7, b8] = [some (.scr ns), some (.dat (.int (i : Int))), none, b3, b4, b5, b6, b7, b8] :=
      fun b3 b4 b5 b6 b7 b8 g3 g4 g5 g6 g7 g8 => by rw [unSrc_ok (okS_scr ns), unSrc_ok (okS_dat _), unSrc_src, unSrc_ok g3, unSrc_ok g4, unSrc_ok g5, unSrc_ok g6, unSrc_ok g7, unSrc_ok g8, unSrc_nil]
    simp only [sNew, true_and, startD, startS, startN, dVar, dVarF, dC, dOp, dTru, truD, dTOp, dIsN, dNotN, dTIsN, dTNotN, dTAnd, dTOr, dTNot, dAnd, dOr, dNot, dIf, dChain, dTChain, dSl, dNoPart, dPart, dNil, dCons, dTup, dLst, dCall, dFn, dFnS, sNil, sSeq, sRet, sDrop, sIf, gN, gNil', gCons', gT, sAsg, sSet, sPar, sAug, sSetO, dSeq, dSrc0, dSrc1, sSrc0, sSrc1, dIsi, fAdd, fSub, fMul, fMod, fDiv, fLt, fLe, fGt, fGe, dI2, dB2, dI2c, fIsB, fNotB, isNonD, fLen, fMax2, fMin2, fInt, fListOf, fTupOf, List.getElem?_cons_zero, List.getElem?_cons_succ, List.set_cons_zero, List.set_cons_succ, List.length_cons, List.length_nil, Bool.not_true, Bool.not_false, leBig, ltBig, Nat.reduceAdd, Nat.reduceLeDiff, List.cons_append, List.nil_append, if_true, sRaise, wipeD]
    refine ⟨hno, ns, rfl, ⟨hb, by omega, by omega⟩, ?_⟩
    simp only [sFor, dRange1, true_and, startD, startS, startN, dVar, dVarF, dC, dOp, dTru, truD, dTOp, dIsN, dNotN, dTIsN, dTNotN, dTAnd, dTOr, dTNot, dAnd, dOr, dNot, dIf, dChain, dTChain, dSl, dNoPart, dPart, dNil, dCons, dTup, dLst, dCall, dFn, dFnS, sNil, sSeq, sRet, sDrop, sIf, gN, gNil', gCons', gT, sAsg, sSet, sPar, sAug, sSetO, dSeq, dSrc0, dSrc1, sSrc0, sSrc1, dIsi, fAdd, fSub, fMul, fMod, fDiv, fLt, fLe, fGt, fGe, dI2, dB2, dI2c, fIsB, fNotB, isNonD, fLen, fMax2, fMin2, fInt, fListOf, fTupOf, List.getElem?_cons_zero, List.getElem?_cons_succ, List.set_cons_zero, List.set_cons_succ, List.length_cons, List.length_nil, Bool.not_true, Bool.not_false, leBig, ltBig, Nat.reduceAdd, Nat.reduceLeDiff, List.cons_append, List.nil_append, if_true, sRaise, wipeD]
    refine ⟨by decide, by decide, ?_⟩
    refine for_ind (fun r ρ => ∃ b3 b4 b5 b6 b7 b8 : Option D, ρ = [some (.scr ns), some (.dat (.int (i : Int))), some .src, b3, b4, b5, b6, b7, b8] ∧ okS b3 ∧ okS b4 ∧ okS b5 ∧ okS b6 ∧ okS b7 ∧ okS b8) ?_ ?_ _ _ ?_
    · rintro ρ ⟨b3, b4, b5, b6, b7, b8, rfl, g3, g4, g5, g6, g7, g8⟩
      have nxt := ih _ ⟨_, _, _, _, _, _, _, last b3 b4 b5 b6 b7 b8 g3 g4 g5 g6 g7 g8, okS_dat _, g3, g4, g5, g6, g7, g8, fun d h => hd d (List.mem_cons_of_mem _ h)⟩
      exact nxt
    · rintro d2 r2 ρ ⟨b3, b4, b5, b6, b7, b8, rfl, g3, g4, g5, g6, g7, g8⟩ ih2
      simp only [forGo]
      generalize forGo (gN 3) _ _ _ r2 = KK at ih2 ⊢
      generalize hT : sSeq (sSet 8 _) _ = TAIL
      simp only [sPar, dFnS, iAdd, wipeD, List.getElem?_cons_zero, List.getElem?_cons_succ, List.set_cons_succ, List.set_cons_zero, List.length_cons, List.length_nil, List.cons_append, List.nil_append, gT, gCons', gN, gNil', sNil, sSeq, sRet, sDrop, sIf, sAsg, sSet, sPar, sFor, dOp, dCall, dCons, dNil, dVar, dVarF, dC, dTup, dLst, dLc, dSeq, dFn, dFnO, dTOp, dTru, truD, dTAnd, dTOr, dTNot, dAnd, dOr, dNot, dIf, leBig, ltBig, Nat.reduceAdd, Nat.reduceLeDiff, if_true, Bool.not_true, Bool.not_false, true_and]
      refine ⟨9, rfl, by omega, by omega, fun c c0 c1 => ⟨_, .inl rfl, by simp, by simp, fun w hw => ?_⟩⟩
      obtain ⟨w1, w2⟩ := fines_ok w hw
      obtain ⟨m, m1, m2, m3, m4⟩ := isWord_of hw
      have k1 : 1 ≤ 1 + c := by omega
      have k9 : 1 + c ≤ 9 := by omega
      generalize hk : 1 + c = k at k1 k9 ⊢
      generalize ho : (PyData.str (Str.ofString (if m = true then "unions" else "meets"))) = w'
      have hw' : w' ∈ [PyData.str (Str.ofString "unions"), PyData.str (Str.ofString "meets")] := by
        rw [← ho]; cases m <;> simp
      obtain ⟨v1, v2⟩ := fines_ok w' hw'
      obtain ⟨m', n1, n2, n3, n4⟩ := isWord_of hw'
      have hm' : m' = !m := by
        have : isWord "meets" w' = !m := by rw [← ho]; cases m <;> decide +kernel
        rw [← n4, this]
      have e4 : fMul (.int 2) (.int k) = some (.int (2 * k)) := iMul (by omega) (by omega)
      have he : (2 * k - 2) % 2 = 0 := by omega
      have fin : ∀ (G Q : List Pile) (D : DEnds), D.nx = KK → Heap68 (2 * k - 2) G → oftens G ≤ 4 → G.length ≤ 4 → (m = false → G.any isLone = false) → Heap68 (2 * k - 2) Q → oftens Q ≤ 4 → Q.length ≤ 4 → ((!m) = false → Q.any isLone = false) →
          TAIL D [some (.scr ns), some (.dat (.int (i : Int))), some .src, some (.dat d2), some (.dat (.int k)), some (.dat w), some (.dat w'), some (.dat (.list [heapD G, heapD Q])), b8] ⟨fun _ _ => False, tabs ca⟩ := by
        intro G Q D hD G1 G2 G3 G4 Q1 Q2 Q3 Q4
        subst hT
        simp only [dFnT, fIx_l0, fIx_l1, e4, iSub, wipeD, List.getElem?_cons_zero, List.getElem?_cons_succ, List.set_cons_succ, List.set_cons_zero, List.length_cons, List.length_nil, List.cons_append, List.nil_append, gT, gCons', gN, gNil', sNil, sSeq, sRet, sDrop, sIf, sAsg, sSet, sPar, sFor, dOp, dCall, dCons, dNil, dVar, dVarF, dC, dTup, dLst, dLc, dSeq, dFn, dFnO, dTOp, dTru, truD, dTAnd, dTOr, dTNot, dAnd, dOr, dNot, dIf, leBig, ltBig, Nat.reduceAdd, Nat.reduceLeDiff, if_true, Bool.not_true, Bool.not_false, true_and]
        refine t_ok ca w1 (by omega) (by omega) w2 k1 k9 (tide_of rfl G1 (by omega) (by rw [m4]; exact G4)) (tide_of rfl Q1 (by omega) (by rw [m3]; exact Q4)) fun a b pa pb => ?_
        have aP := pa.perm (turned_nodup he G1 Q1)
        have bP := pb.perm (turned_nodup he Q1 G1)
        have g1 : ∀ x ∈ G, 1 ≤ x.2.2 := fun x hx => (G1.1 x hx).2.2.2
        have q1 : ∀ x ∈ Q, 1 ≤ x.2.2 := fun x hx => (Q1.1 x hx).2.2.2
        have oa : oftens a ≤ 8 := by rw [pa.oftens_eq]; have := oftens_turned (l := 2 * k - 2) g1 q1; omega
        have ob : oftens b ≤ 8 := by rw [pb.oftens_eq]; have := oftens_turned (l := 2 * k - 2) q1 g1; omega
        have Ha : Heap68 (2 * k - 2) a := pa.ok (turned_ok he G1.1 Q1.1)
        have Hb : Heap68 (2 * k - 2) b := pb.ok (turned_ok he Q1.1 G1.1)
        have tl : ∀ A B : List Pile, A.length ≤ 4 → B.length ≤ 4 → (turnedP (2 * k - 2) A B).length ≤ 8 := fun A B hA hB => by
          have := List.length_filter_le (fun x => !isLone x) A
          have := List.length_filter_le isLone B
          simp only [turnedP, List.length_append, List.length_map]
          omega
        have la : a.length ≤ 8 := by rw [aP.length_eq]; exact tl _ _ G3 Q3
        have lb : b.length ≤ 8 := by rw [bP.length_eq]; exact tl _ _ Q3 G3
        have no_of : ∀ {h : List Pile}, h.any isLone = false ↔ h.filter isLone = [] := fun {h} => by rw [List.filter_eq_nil_iff, List.any_eq_false]
        have na : m' = false → a.any isLone = false := fun z => by
          rw [no_of]
          have := (aP.filter isLone).trans (List.Perm.of_eq (are_lone (l := 2 * k - 2) he G1.1))
          rw [no_of.mp (Q4 (by rw [← hm', z]))] at this
          exact List.Perm.eq_nil this
        have nb : (!m') = false → b.any isLone = false := fun z => by
          rw [no_of]
          have := (bP.filter isLone).trans (List.Perm.of_eq (are_lone (l := 2 * k - 2) he Q1.1))
          rw [no_of.mp (G4 (by rw [hm', Bool.not_not] at z; exact z))] at this
          exact List.Perm.eq_nil this
        have back := turned_back he G1.1 Q1.1 aP bP
        have back2 := turned_back he Q1.1 G1.1 bP aP
        refine ⟨w, G, Q, 2 * k - 2, rfl, by omega, by omega, he, G1, Q1, fun a' b' pa' sa' pb' sb' => ?_⟩
        rw [rise_uniq sa' pa.rise (pa'.trans aP.symm), rise_uniq sb' pb.rise (pb'.trans bP.symm)]
        refine ⟨_, rfl, gs_pairT (gs_heap68 Ha (by omega) (by omega) oa) (gs_heap68 Hb (by omega) (by omega) ob), ?_⟩
        simp only [fIx_t0, fIx_t1, wipeD, List.getElem?_cons_zero, List.getElem?_cons_succ, List.set_cons_succ, List.set_cons_zero, List.length_cons, List.length_nil, List.cons_append, List.nil_append, gT, gCons', gN, gNil', sNil, sSeq, sRet, sDrop, sIf, sAsg, sSet, sPar, sFor, dOp, dCall, dCons, dNil, dVar, dVarF, dC, dTup, dLst, dLc, dSeq, dFn, dFnO, dTOp, dTru, truD, dTAnd, dTOr, dTNot, dAnd, dOr, dNot, dIf, leBig, ltBig, Nat.reduceAdd, Nat.reduceLeDiff, if_true, Bool.not_true, Bool.not_false, true_and]
        refine t_ok ca v1 (by omega) (by omega) v2 k1 k9 (tide_of rfl Ha oa (by rw [n4]; exact na)) (tide_of rfl Hb ob (by rw [n3]; exact nb)) fun a2 b2 pa2 pb2 => ?_
        have p2 := pa2.perm (turned_nodup he Ha Hb)
        have p3 := pb2.perm (turned_nodup he Hb Ha)
        rw [rise_uniq pa2.rise G1.2 (p2.trans back), rise_uniq pb2.rise Q1.2 (p3.trans back2)]
        have et : fTupOf [.list [heapD G, heapD Q]] = some (.tuple [heapD G, heapD Q]) := rfl
        simp only [et, wipeD, List.getElem?_cons_zero, List.getElem?_cons_succ, List.set_cons_succ, List.set_cons_zero, List.length_cons, List.length_nil, List.cons_append, List.nil_append, gT, gCons', gN, gNil', sNil, sSeq, sRet, sDrop, sIf, sAsg, sSet, sPar, sFor, dOp, dCall, dCons, dNil, dVar, dVarF, dC, dTup, dLst, dLc, dSeq, dFn, dFnO, dTOp, dTru, truD, dTAnd, dTOr, dTNot, dAnd, dOr, dNot, dIf, leBig, ltBig, Nat.reduceAdd, Nat.reduceLeDiff, if_true, Bool.not_true, Bool.not_false, true_and]
        refine ⟨_, rfl, gs_pairT (gs_heap68 G1 (by omega) (by omega) (by omega)) (gs_heap68 Q1 (by omega) (by omega) (by omega)), ?_⟩
        simp only [wipeD, List.getElem?_cons_zero, List.getElem?_cons_succ, List.set_cons_succ, List.set_cons_zero, List.length_cons, List.length_nil, List.cons_append, List.nil_append, gT, gCons', gN, gNil', sNil, sSeq, sRet, sDrop, sIf, sAsg, sSet, sPar, sFor, dOp, dCall, dCons, dNil, dVar, dVarF, dC, dTup, dLst, dLc, dSeq, dFn, dFnO, dTOp, dTru, truD, dTAnd, dTOr, dTNot, dAnd, dOr, dNot, dIf, leBig, ltBig, Nat.reduceAdd, Nat.reduceLeDiff, if_true, Bool.not_true, Bool.not_false, true_and]
        refine ⟨fun _ h => h, k, rfl, k1, k9, ?_⟩
        simp only [dB2, wipeD, List.getElem?_cons_zero, List.getElem?_cons_succ, List.set_cons_succ, List.set_cons_zero, List.length_cons, List.length_nil, List.cons_append, List.nil_append, gT, gCons', gN, gNil', sNil, sSeq, sRet, sDrop, sIf, sAsg, sSet, sPar, sFor, dOp, dCall, dCons, dNil, dVar, dVarF, dC, dTup, dLst, dLc, dSeq, dFn, dFnO, dTOp, dTru, truD, dTAnd, dTOr, dTNot, dAnd, dOr, dNot, dIf, leBig, ltBig, Nat.reduceAdd, Nat.reduceLeDiff, if_true, Bool.not_true, Bool.not_false, true_and]
        have go : KK [some (.scr ns), some (.dat (.int (i : Int))), some .src, some (.dat d2), some (.dat (.int k)), some (.dat w), some (.dat w'), some (.dat (.list [heapD G, heapD Q])), some (.dat (.tuple [heapD a, heapD b]))] :=
          ih2 _ ⟨_, _, _, _, _, _, rfl, okS_dat _, okS_dat _, okS_dat _, okS_dat _, okS_dat _, okS_dat _⟩
        by_cases kk : 1 < k
        · simp only [decide_eq_true kk, wipeD, List.getElem?_cons_zero, List.getElem?_cons_succ, List.set_cons_succ, List.set_cons_zero, List.length_cons, List.length_nil, List.cons_append, List.nil_append, gT, gCons', gN, gNil', sNil, sSeq, sRet, sDrop, sIf, sAsg, sSet, sPar, sFor, dOp, dCall, dCons, dNil, dVar, dVarF, dC, dTup, dLst, dLc, dSeq, dFn, dFnO, dTOp, dTru, truD, dTAnd, dTOr, dTNot, dAnd, dOr, dNot, dIf, leBig, ltBig, Nat.reduceAdd, Nat.reduceLeDiff, if_true, Bool.not_true, Bool.not_false, true_and]
          refine ⟨fun _ h => h, k, rfl, by omega, k9, ?_⟩
          show D.nx _
          rw [hD]
          exact go
        · simp only [decide_eq_false kk, wipeD, List.getElem?_cons_zero, List.getElem?_cons_succ, List.set_cons_succ, List.set_cons_zero, List.length_cons, List.length_nil, List.cons_append, List.nil_append, gT, gCons', gN, gNil', sNil, sSeq, sRet, sDrop, sIf, sAsg, sSet, sPar, sFor, dOp, dCall, dCons, dNil, dVar, dVarF, dC, dTup, dLst, dLc, dSeq, dFn, dFnO, dTOp, dTru, truD, dTAnd, dTOr, dTNot, dAnd, dOr, dNot, dIf, leBig, ltBig, Nat.reduceAdd, Nat.reduceLeDiff, if_true, Bool.not_true, Bool.not_false, true_and]
          show D.nx _
          rw [hD]
          exact go
      rw [m1, m2]
      cases m with
      | true =>
        show f__law_drawn_heap [.int k, .bool true] _ _
        refine ⟨k, true, rfl, k1, k9, fun G G1 G2 G3 G4 => ⟨k, false, rfl, k1, k9, fun Q Q1 Q2 Q3 Q4 => ?_⟩⟩
        have := fin G Q
        rw [← ho] at this
        exact this _ rfl G1 G2 G3 G4 Q1 Q2 Q3 Q4
      | false =>
        show f__law_drawn_heap [.int k, .bool false] _ _
        refine ⟨k, false, rfl, k1, k9, fun G G1 G2 G3 G4 => ⟨k, true, rfl, k1, k9, fun Q Q1 Q2 Q3 Q4 => ?_⟩⟩
        have := fin G Q
        rw [← ho] at this
        exact this _ rfl G1 G2 G3 G4 Q1 Q2 Q3 Q4
    · exact ⟨a3, a4, a5, a6, a7, a8, rfl, h3, h4, h5, h6, h7, h8⟩
  · exact ⟨none, none, none, none, none, none, none, rfl, okS_none, okS_none, okS_none, okS_none, okS_none, okS_none, okS_none, fun d hd => by
      obtain ⟨i, rfl, hi⟩ := rangeD_mem hd
      exact ⟨i, rfl, by omega⟩⟩
end DD

namespace DD
open PySem L2 LamX
open PyProof.Rows (envOfC)
structure Blt (K : Fg) (mg : Str → Option Value) : Prop where
  b_all : mg "all" = none
  b_any : mg "any" = none
  b_bool : mg "bool" = none
  b_int : mg "int" = none
  b_isinstance : mg "isinstance" = none
  b_len : mg "len" = none
  b_max : mg "max" = none
  b_min : mg "min" = none
  b_range : mg "range" = none
  b_repr : mg "repr" = none
  b_sorted : mg "sorted" = none
  b_str : mg "str" = none
  b_sum : mg "sum" = none
  b_tuple : mg "tuple" = none
  c_GREATEST_LAST : ∃ t, mg "GREATEST_LAST" = some (.int 8 t)
  c_GREATEST_WIDTH : ∃ t, mg "GREATEST_WIDTH" = some (.int 8 t)
  c_MOST_PLACES : ∃ t, mg "MOST_PLACES" = some (.int 17 t)
  s_MEETS : ∃ t, mg "MEETS" = some (.str (Str.ofString "meets") t)
  s_UNIONS : ∃ t, mg "UNIONS" = some (.str (Str.ofString "unions") t)
abbrev s_init : Stmt := inClass (top 1) 0
theorem sc_init : FnScope ["self", "value"] ["self", "value"] (defScope s_init) := ⟨rfl, rfl, rfl, by decide +kernel, rfl, by decide +kernel, by decide +kernel⟩
theorem init_ok {P : Program} {w : World} {K : Fg} {mg : Str → Option Value} {base : Heap} (hm : mg "ValueError" = none) {f : Addr} {fd : FuncData} (F : Fun K "__init__" "StayError.__init__" s_init f fd) (vV : PySem.W.findCls K (.type "ValueError") (.type "type") "__init__" = some (.val (.builtin "ValueError.__init__"))) : FnOk P w K mg base CX0 1 f fd ["self", "value"] (spInit K) := by
  refine F.ok sc_init (fun vs H Q E h => ?_) (fun cdv A outer s H vs Q E hr h => ?_)
  · obtain ⟨a, C, x, rfl, _⟩ := h
    rfl
  · obtain ⟨a, C, x, rfl, T, nv, ha, k⟩ := h
    refine ⟨_, pss_cons (ps_expr (pe_veinit rfl hm vV (pa_cons (pv 0) (pa_cons (pv 1) pa_nil)))) (pss_one (ps_ost (pv 0) (pv 1))), ?_⟩
    exact ⟨_, rfl, _, rfl, a, C, [x], rfl, (by show 1 ≤ 1000; decide), T, ha, _, rfl, _, rfl, a, C, rfl, T, nv, .inl ⟨ha, fun dx hd hne => k dx hd hne⟩⟩
theorem caughtG {ca : CA} {X : Cx} {g : Addr} {cdg : Value} {q : Str} (a_BadWay : ErrA X.K X.mg "BadWay" ca.c_BadWay ca.fI) (a_BadNumber : ErrA X.K X.mg "BadNumber" ca.c_BadNumber ca.fI) (a_BadHeap : ErrA X.K X.mg "BadHeap" ca.c_BadHeap ca.fI) :
    GivesTo X ["_law_call", "error"] "_law_caught" (defScope s__law_caught) g cdg (defBody s__law_caught) "_law_call" q (TTc X.K "told" [(ca.c_BadWay, "way"), (ca.c_BadNumber, "number"), (ca.c_BadHeap, "heap")]) :=
  caught_gives sc__law_caught.nd (fun _ => rfl) fun s H => clause_mk a_BadWay.X a_BadWay.nv ⟨rfl, by decide, .inl a_BadWay.g⟩ rfl rfl (.inl rfl) (by decide) (by decide) (clause_mk a_BadNumber.X a_BadNumber.nv ⟨rfl, by decide, .inl a_BadNumber.g⟩ rfl rfl (.inl rfl) (by decide) (by decide) (clause_mk a_BadHeap.X a_BadHeap.nv ⟨rfl, by decide, .inl a_BadHeap.g⟩ rfl rfl (.inl rfl) (by decide) (by decide) (.nil)))
section
variable {P : Program} {w : World} {K : Fg} {mg : Str → Option Value} {base : Heap}
theorem ok_is_whole_ (B : Blt K mg) (D : DefAt K mg "is_whole" s_is_whole ["value"]) : Cal P w K mg base 1 "is_whole" (spD K 1 f_is_whole) :=
  D.cal fun _ _ F => fun_d0 F sc_is_whole rfl (d_is_whole) (fun cdv A outer s H E hr hgd => (db_one (ds_ret (de_and (de_isi isi_int rfl B.b_isinstance rfl B.b_int PyProof.Rows.boot_int (de_var (pv 0))) (de_one (de_not (de_isi isi_bool rfl B.b_isinstance rfl B.b_bool PyProof.Rows.boot_bool (de_var (pv 0))))))))) (h_is_whole)
theorem ok_is_from_to_ (B : Blt K mg) (D : DefAt K mg "is_from_to" s_is_from_to ["value", "low", "high"]) (c_is_whole : Cal P w K mg base 1 "is_whole" (spD K 1 f_is_whole)) : Cal P w K mg base 2 "is_from_to" (spD K 3 f_is_from_to) :=
  D.cal fun _ _ F => fun_d0 F sc_is_from_to rfl (d_is_from_to) (fun cdv A outer s H E hr hgd => (db_one (ds_ret (de_and (de_call c_is_whole hr (by decide) hgd (da_cons (de_var (pv 0)) da_nil)) (de_one (de_lele (de_var (pv 1)) (de_var (pv 0)) (de_var (pv 2)))))))) (h_is_from_to)
theorem ok_is_tuple_long_ (B : Blt K mg) (D : DefAt K mg "is_tuple_long" s_is_tuple_long ["value", "many"]) : Cal P w K mg base 1 "is_tuple_long" (spD K 2 f_is_tuple_long) :=
  D.cal fun _ _ F => fun_d0 F sc_is_tuple_long rfl (d_is_tuple_long) (fun cdv A outer s H E hr hgd => (db_one (ds_ret (de_and (de_isi isi_tuple rfl B.b_isinstance rfl B.b_tuple PyProof.Rows.boot_tuple (de_var (pv 0))) (de_one (de_eq hr.units (de_len B.b_len (da_cons (de_var (pv 0)) da_nil)) (de_var (pv 1)))))))) (h_is_tuple_long)
theorem ok_is_stretch_of_ (B : Blt K mg) (D : DefAt K mg "is_stretch_of" s_is_stretch_of ["places", "value"]) (c_is_from_to : Cal P w K mg base 2 "is_from_to" (spD K 3 f_is_from_to)) (c_is_tuple_long : Cal P w K mg base 1 "is_tuple_long" (spD K 2 f_is_tuple_long)) : Cal P w K mg base 3 "is_stretch_of" (spD K 2 f_is_stretch_of) :=
  D.cal fun _ _ F => fun_d0 F sc_is_stretch_of rfl (d_is_stretch_of) (fun cdv A outer s H E hr hgd => (db_cons (ds_if (dt_not (dt_tru (de_call c_is_tuple_long hr (by decide) hgd (da_cons (de_var (pv 1)) (da_cons de_int da_nil))))) (db_one (ds_ret de_bl)) db_nil) (db_cons (ds_asg (de_var (pv 1)) (dg_tup rfl (dgs_cons (dg_name (pg_name (i := 2) sc_is_stretch_of.nd rfl (by first | exact Or.inl rfl | exact Or.inr rfl))) (dgs_cons (dg_name (pg_name (i := 3) sc_is_stretch_of.nd rfl (by first | exact Or.inl rfl | exact Or.inr rfl))) dgs_nil)))) (db_one (ds_ret (de_and (de_call c_is_from_to hr (by decide) hgd (da_cons (de_var (pv 3)) (da_cons de_int (da_cons (de_sub (de_var (pv 0)) de_int) da_nil)))) (de_one (de_call c_is_from_to hr (by decide) hgd (da_cons (de_var (pv 2)) (da_cons de_int (da_cons (de_var (pv 3)) da_nil))))))))))) (h_is_stretch_of)
theorem ok_check_places_ (ca : CA) (B : Blt K mg) (D : DefAt K mg "check_places" s_check_places ["places"]) (c_BadPlaces : ErrC P w K mg base "BadPlaces" ca.c_BadPlaces) (c_is_from_to : Cal P w K mg base 2 "is_from_to" (spD K 3 f_is_from_to)) : CalE P w K mg base 3 "check_places" (spD K 1 (f_check_places ca)) :=
  D.calE fun _ _ F => fun_dE F sc_check_places rfl (d_check_places ca) (fun cdv A outer s H E hr hgd => (db_one (ds_if (dt_not (dt_tru (de_call c_is_from_to hr (by decide) hgd (da_cons (de_var (pv 0)) (da_cons de_int (da_cons (de_gintE (i := 17) rfl B.c_MOST_PLACES) da_nil)))))) (db_one (ds_raise c_BadPlaces rfl takesX (hr.mono (by decide)) (de_var (pv 0)))) db_nil))) (h_check_places ca)
theorem ok_is_pile_ (B : Blt K mg) (D : DefAt K mg "is_pile" s_is_pile ["places", "value"]) (c_is_from_to : Cal P w K mg base 2 "is_from_to" (spD K 3 f_is_from_to)) (c_is_tuple_long : Cal P w K mg base 1 "is_tuple_long" (spD K 2 f_is_tuple_long)) (c_is_stretch_of : Cal P w K mg base 3 "is_stretch_of" (spD K 2 f_is_stretch_of)) : Cal P w K mg base 4 "is_pile" (spD K 2 f_is_pile) :=
  D.cal fun _ _ F => fun_d0 F sc_is_pile rfl (d_is_pile) (fun cdv A outer s H E hr hgd => (db_cons (ds_if (dt_not (dt_tru (de_call c_is_tuple_long hr (by decide) hgd (da_cons (de_var (pv 1)) (da_cons de_int da_nil))))) (db_one (ds_ret de_bl)) db_nil) (db_one (ds_ret (de_and (de_call c_is_stretch_of hr (by decide) hgd (da_cons (de_var (pv 0)) (da_cons (de_sl (de_var (pv 1)) dp_none (dp_some de_int)) da_nil))) (de_one (de_call c_is_from_to hr (by decide) hgd (da_cons (de_ix (de_var (pv 1)) de_int) (da_cons de_int (da_cons (de_gintE (i := 8) rfl B.c_GREATEST_WIDTH) da_nil)))))))))) (h_is_pile)
theorem ok_covered_ (B : Blt K mg) (D : DefAt K mg "covered" s_covered ["places", "heap"]) : Cal P w K mg base 1 "covered" (spD K 2 f_covered) :=
  D.cal fun _ _ F => fun_d0 F sc_covered rfl (d_covered) (fun cdv A outer s H E hr hgd => (db_one (ds_ret (de_comp [("k", 5)] rfl sc_covered.nd (di_range1 rfl B.b_range (de_var (pv 0))) (blkOk_by (N := ["places", "heap", "a", "b", "often", "k"]) (sc := defScope s_covered) (by decide +kernel)) (fun _ _ _ _ _ => (dg_name (pg_name (i := 5) sc_covered.nd rfl (by first | exact Or.inl rfl | exact Or.inr rfl)))) (fun _ _ _ _ _ => dts_nil) (fun _ _ _ _ _ => (de_sum rfl B.b_sum (da_cons (de_comp [("a", 2), ("b", 3), ("often", 4)] rfl sc_covered.nd (di_seq (de_var (pv 1))) (blkOk_by (by kernel_rfl)) (fun _ _ _ _ _ => (dg_tup rfl (dgs_cons (dg_name (pg_name (i := 2) sc_covered.nd rfl (by first | exact Or.inl rfl | exact Or.inr rfl))) (dgs_cons (dg_name (pg_name (i := 3) sc_covered.nd rfl (by first | exact Or.inl rfl | exact Or.inr rfl))) (dgs_cons (dg_name (pg_name (i := 4) sc_covered.nd rfl (by first | exact Or.inl rfl | exact Or.inr rfl))) dgs_nil))))) (fun _ _ _ _ _ => (dts_one (dt_lele (de_var (pv 2)) (de_var (pv 5)) (de_var (pv 3))))) (fun _ _ _ _ _ => (de_var (pv 4)))) da_nil))))))) (h_covered)
theorem ok_is_too_high_ (B : Blt K mg) (D : DefAt K mg "is_too_high" s_is_too_high ["places", "heap"]) (c_covered : Cal P w K mg base 1 "covered" (spD K 2 f_covered)) : Cal P w K mg base 2 "is_too_high" (spD K 2 f_is_too_high) :=
  D.cal fun _ _ F => fun_d0 F sc_is_too_high rfl (d_is_too_high) (fun cdv A outer s H E hr hgd => (db_one (ds_ret (de_gt (de_maxB rfl B.b_max (de_call c_covered hr (by decide) hgd (da_cons (de_var (pv 0)) (da_cons (de_var (pv 1)) da_nil)))) (de_gintE (i := 8) rfl B.c_GREATEST_WIDTH))))) (h_is_too_high)
theorem ok_is_heap_ (ca : CA) (B : Blt K mg) (D : DefAt K mg "is_heap" s_is_heap ["places", "value"]) (c_check_places : CalE P w K mg base 3 "check_places" (spD K 1 (f_check_places ca))) (c_is_pile : Cal P w K mg base 4 "is_pile" (spD K 2 f_is_pile)) (c_is_too_high : Cal P w K mg base 2 "is_too_high" (spD K 2 f_is_too_high)) : CalE P w K mg base 5 "is_heap" (spD K 2 (f_is_heap ca)) :=
  D.calE fun _ _ F => fun_dE F sc_is_heap rfl (d_is_heap ca) (fun cdv A outer s H E hr hgd => (db_cons (ds_expr (de_callE c_check_places passX hr (by decide) hgd (da_cons (de_var (pv 0)) da_nil))) (db_cons (ds_if (DWx.pt (dw_or (dt_not (dt_tru (de_isi isi_tuple rfl B.b_isinstance rfl B.b_tuple PyProof.Rows.boot_tuple (de_var (pv 1))))) (dw_or1 (dt_not (dt_tru (de_all rfl B.b_all (da_cons (de_comp [("pile", 2)] rfl sc_is_heap.nd (di_seq (de_var (pv 1))) (blkOk_by (N := ["places", "value", "pile", "stretches", "k"]) (sc := defScope s_is_heap) (by decide +kernel)) (fun _ _ _ _ _ => (dg_name (pg_name (i := 2) sc_is_heap.nd rfl (by first | exact Or.inl rfl | exact Or.inr rfl)))) (fun _ _ _ _ _ => dts_nil) (fun _ _ _ _ _ => (de_call c_is_pile hr (by decide) hgd (da_cons (de_var (pv 0)) (da_cons (de_var (pv 2)) da_nil))))) da_nil))))))) (db_one (ds_ret de_bl)) db_nil) (db_cons (ds_set (fun _ h => ps_set (i := 3) sc_is_heap.nd rfl (by first | exact Or.inl rfl | exact Or.inr rfl) h) (de_comp [("pile", 2)] rfl sc_is_heap.nd (di_seq (de_var (pv 1))) (blkOk_by (N := ["places", "value", "pile", "stretches", "k"]) (sc := defScope s_is_heap) (by decide +kernel)) (fun _ _ _ _ _ => (dg_name (pg_name (i := 2) sc_is_heap.nd rfl (by first | exact Or.inl rfl | exact Or.inr rfl)))) (fun _ _ _ _ _ => dts_nil) (fun _ _ _ _ _ => (de_sl (de_var (pv 2)) dp_none (dp_some de_int))))) (db_cons (ds_if (dt_tru (de_any rfl B.b_any (da_cons (de_comp [("k", 4)] rfl sc_is_heap.nd (di_range1 rfl B.b_range (de_sub (de_len B.b_len (da_cons (de_var (pv 3)) da_nil)) de_int)) (blkOk_by (N := ["places", "value", "pile", "stretches", "k"]) (sc := defScope s_is_heap) (by decide +kernel)) (fun _ _ _ _ _ => (dg_name (pg_name (i := 4) sc_is_heap.nd rfl (by first | exact Or.inl rfl | exact Or.inr rfl)))) (fun _ _ _ _ _ => dts_nil) (fun _ _ _ _ _ => (de_geP hr.units (de_ix (de_var (pv 3)) (de_var (pv 4))) (de_ix (de_var (pv 3)) (de_add (de_var (pv 4)) de_int))))) da_nil))) (db_one (ds_ret de_bl)) db_nil) (db_one (ds_ret (de_not (de_call c_is_too_high hr (by decide) hgd (da_cons (de_var (pv 0)) (da_cons (de_var (pv 1)) da_nil))))))))))) (h_is_heap ca)
theorem ok_piled_ (B : Blt K mg) (D : DefAt K mg "piled" s_piled ["piles"]) : Cal P w K mg base 1 "piled" (spD K 1 f_piled) :=
  D.cal fun _ _ F => fun_d0 F sc_piled rfl (d_piled) (fun cdv A outer s H E hr hgd => (db_cons (ds_newD (i := 1) (fun _ h => ps_set (i := 1) sc_piled.nd rfl (by first | exact Or.inl rfl | exact Or.inr rfl) h)) (db_cons (ds_for PassesOwn.never rfl (di_seq (de_var (pv 0))) (dg_tup rfl (dgs_cons (dg_name (pg_name (i := 2) sc_piled.nd rfl (by first | exact Or.inl rfl | exact Or.inr rfl))) (dgs_cons (dg_name (pg_name (i := 3) sc_piled.nd rfl (by first | exact Or.inl rfl | exact Or.inr rfl))) (dgs_cons (dg_name (pg_name (i := 4) sc_piled.nd rfl (by first | exact Or.inl rfl | exact Or.inr rfl))) dgs_nil)))) (db_one (ds_dset (pv 1) (de_add (de_dgetD (units1 hr) (pv 1) (da_cons (de_var (pv 2)) (da_cons (de_var (pv 3)) da_nil)) de_int ⟨rfl, rfl, rfl, rfl⟩) (de_var (pv 4))) (da_cons (de_var (pv 2)) (da_cons (de_var (pv 3)) da_nil)) fun _ _ h1 h2 => ps_dput (units1 hr) (pv 1) h2 h1 rfl))) (db_one (ds_ret (de_tuple B.b_tuple (da_cons (de_comp [("a", 2), ("b", 3)] rfl sc_piled.nd (di_seq (de_sortedO (pe_callB (cr_sortedDT rfl) rfl B.b_sorted PyProof.Rows.boot_sorted (pa_cons (pv 1) pa_nil)))) (blkOk_by (N := ["piles", "counts", "a", "b", "often"]) (sc := defScope s_piled) (by decide +kernel)) (fun _ _ _ _ _ => (dg_tup rfl (dgs_cons (dg_name (pg_name (i := 2) sc_piled.nd rfl (by first | exact Or.inl rfl | exact Or.inr rfl))) (dgs_cons (dg_name (pg_name (i := 3) sc_piled.nd rfl (by first | exact Or.inl rfl | exact Or.inr rfl))) dgs_nil)))) (fun _ _ _ _ _ => dts_nil) (fun _ _ _ _ _ => (de_tup (da_cons (de_var (pv 2)) (da_cons (de_var (pv 3)) (da_cons (de_dgetT (units1 hr) (pv 1) (da_cons (de_var (pv 2)) (da_cons (de_var (pv 3)) da_nil))) da_nil)))))) da_nil))))))) (h_piled)
theorem ok_is_net_way_ (B : Blt K mg) (D : DefAt K mg "is_net_way" s_is_net_way ["value"]) : Cal P w K mg base 1 "is_net_way" (spD K 1 f_is_net_way) :=
  D.cal fun _ _ F => fun_d0 F sc_is_net_way rfl (d_is_net_way) (fun cdv A outer s H E hr hgd => (db_one (ds_ret (de_and (de_isi isi_str rfl B.b_isinstance rfl B.b_str boot_str' (de_var (pv 0))) (de_one (de_inG (units65 hr) (de_var (pv 0)) (de_tup (da_cons (de_gstrE rfl B.s_UNIONS) (da_cons (de_gstrE rfl B.s_MEETS) da_nil))))))))) (h_is_net_way)
theorem ok_check_way_ (ca : CA) (B : Blt K mg) (D : DefAt K mg "check_way" s_check_way ["way"]) (c_BadWay : ErrC P w K mg base "BadWay" ca.c_BadWay) (c_is_net_way : Cal P w K mg base 1 "is_net_way" (spD K 1 f_is_net_way)) : CalE P w K mg base 3 "check_way" (spD K 1 (f_check_way ca)) :=
  D.calE fun _ _ F => fun_dE F sc_check_way rfl (d_check_way ca) (fun cdv A outer s H E hr hgd => (db_one (ds_if (dt_not (dt_tru (de_call c_is_net_way hr (by decide) hgd (da_cons (de_var (pv 0)) da_nil)))) (db_one (ds_raise c_BadWay rfl takesX (hr.mono (by decide)) (de_var (pv 0)))) db_nil))) (h_check_way ca)
theorem ok_is_odd_ (B : Blt K mg) (D : DefAt K mg "is_odd" s_is_odd ["place"]) : Cal P w K mg base 1 "is_odd" (spD K 1 f_is_odd) :=
  D.cal fun _ _ F => fun_d0 F sc_is_odd rfl (d_is_odd) (fun cdv A outer s H E hr hgd => (db_one (ds_ret (de_ne hr.units (de_mul (de_div (de_var (pv 0)) de_int) de_int) (de_var (pv 0)))))) (h_is_odd)
theorem ok_is_between_ (B : Blt K mg) (D : DefAt K mg "is_between" s_is_between ["a", "b"]) (c_is_odd : Cal P w K mg base 1 "is_odd" (spD K 1 f_is_odd)) : Cal P w K mg base 2 "is_between" (spD K 2 f_is_between) :=
  D.cal fun _ _ F => fun_d0 F sc_is_between rfl (d_is_between) (fun cdv A outer s H E hr hgd => (db_one (ds_ret (de_and (de_eq hr.units (de_var (pv 0)) (de_var (pv 1))) (de_one (de_call c_is_odd hr (by decide) hgd (da_cons (de_var (pv 0)) da_nil))))))) (h_is_between)
theorem ok_turned_begin_ (B : Blt K mg) (D : DefAt K mg "turned_begin" s_turned_begin ["a"]) (c_is_odd : Cal P w K mg base 1 "is_odd" (spD K 1 f_is_odd)) : Cal P w K mg base 2 "turned_begin" (spD K 1 f_turned_begin) :=
  D.cal fun _ _ F => fun_d0 F sc_turned_begin rfl (d_turned_begin) (fun cdv A outer s H E hr hgd => (db_cons (ds_if (dt_eq hr.units (de_var (pv 0)) de_int) (db_one (ds_ret de_int)) db_nil) (db_one (ds_ret (de_if (dt_tru (de_call c_is_odd hr (by decide) hgd (da_cons (de_var (pv 0)) da_nil))) (de_add (de_var (pv 0)) de_int) (de_sub (de_var (pv 0)) de_int)))))) (h_turned_begin)
theorem ok_turned_end_ (B : Blt K mg) (D : DefAt K mg "turned_end" s_turned_end ["b", "last"]) (c_is_odd : Cal P w K mg base 1 "is_odd" (spD K 1 f_is_odd)) : Cal P w K mg base 2 "turned_end" (spD K 2 f_turned_end) :=
  D.cal fun _ _ F => fun_d0 F sc_turned_end rfl (d_turned_end) (fun cdv A outer s H E hr hgd => (db_cons (ds_if (dt_eq hr.units (de_var (pv 0)) (de_var (pv 1))) (db_one (ds_ret (de_var (pv 1)))) db_nil) (db_one (ds_ret (de_if (dt_tru (de_call c_is_odd hr (by decide) hgd (da_cons (de_var (pv 0)) da_nil))) (de_sub (de_var (pv 0)) de_int) (de_add (de_var (pv 0)) de_int)))))) (h_turned_end)
theorem ok_turned_piles_ (B : Blt K mg) (D : DefAt K mg "turned_piles" s_turned_piles ["heap", "last"]) (c_is_between : Cal P w K mg base 2 "is_between" (spD K 2 f_is_between)) (c_turned_begin : Cal P w K mg base 2 "turned_begin" (spD K 1 f_turned_begin)) (c_turned_end : Cal P w K mg base 2 "turned_end" (spD K 2 f_turned_end)) : Cal P w K mg base 3 "turned_piles" (spD K 2 f_turned_piles) :=
  D.cal fun _ _ F => fun_d0 F sc_turned_piles rfl (d_turned_piles) (fun cdv A outer s H E hr hgd => (db_cons (ds_setLc (i := 2) [("pile", 3)] rfl sc_turned_piles.nd rfl rfl (sw_true rfl rfl rfl (by decide +kernel)) (di_seq (de_var (pv 0))) (blkOk_by (N := ["heap", "last", "kept", "pile", "a", "b", "often"]) (sc := defScope s_turned_piles) (by decide +kernel)) (fun _ _ _ _ _ => (dg_name (pg_name (i := 3) sc_turned_piles.nd rfl (by first | exact Or.inl rfl | exact Or.inr rfl)))) (fun _ _ _ _ _ => (dts_one (dt_not (dt_tru (de_call c_is_between hr (by decide) hgd (da_cons (de_ix (de_var (pv 3)) de_int) (da_cons (de_ix (de_var (pv 3)) de_int) da_nil))))))) (fun _ _ _ _ _ => (de_var (pv 3)))) (db_one (ds_ret (de_comp [("a", 4), ("b", 5), ("often", 6)] rfl sc_turned_piles.nd (di_seq (de_var (pv 2))) (blkOk_by (N := ["heap", "last", "kept", "pile", "a", "b", "often"]) (sc := defScope s_turned_piles) (by decide +kernel)) (fun _ _ _ _ _ => (dg_tup rfl (dgs_cons (dg_name (pg_name (i := 4) sc_turned_piles.nd rfl (by first | exact Or.inl rfl | exact Or.inr rfl))) (dgs_cons (dg_name (pg_name (i := 5) sc_turned_piles.nd rfl (by first | exact Or.inl rfl | exact Or.inr rfl))) (dgs_cons (dg_name (pg_name (i := 6) sc_turned_piles.nd rfl (by first | exact Or.inl rfl | exact Or.inr rfl))) dgs_nil))))) (fun _ _ _ _ _ => dts_nil) (fun _ _ _ _ _ => (de_tup (da_cons (de_call c_turned_begin hr (by decide) hgd (da_cons (de_var (pv 4)) da_nil)) (da_cons (de_call c_turned_end hr (by decide) hgd (da_cons (de_var (pv 5)) (da_cons (de_var (pv 1)) da_nil))) (da_cons (de_var (pv 6)) da_nil)))))))))) (h_turned_piles)
theorem ok_piles_between_ (B : Blt K mg) (D : DefAt K mg "piles_between" s_piles_between ["heap"]) (c_is_between : Cal P w K mg base 2 "is_between" (spD K 2 f_is_between)) : Cal P w K mg base 3 "piles_between" (spD K 1 f_piles_between) :=
  D.cal fun _ _ F => fun_d0 F sc_piles_between rfl (d_piles_between) (fun cdv A outer s H E hr hgd => (db_one (ds_ret (de_comp [("pile", 1)] rfl sc_piles_between.nd (di_seq (de_var (pv 0))) (blkOk_by (N := ["heap", "pile"]) (sc := defScope s_piles_between) (by decide +kernel)) (fun _ _ _ _ _ => (dg_name (pg_name (i := 1) sc_piles_between.nd rfl (by first | exact Or.inl rfl | exact Or.inr rfl)))) (fun _ _ _ _ _ => (dts_one (dt_tru (de_call c_is_between hr (by decide) hgd (da_cons (de_ix (de_var (pv 1)) de_int) (da_cons (de_ix (de_var (pv 1)) de_int) da_nil)))))) (fun _ _ _ _ _ => (de_var (pv 1))))))) (h_piles_between)
theorem ok_check_tide_ (ca : CA) (B : Blt K mg) (D : DefAt K mg "check_tide" s_check_tide ["days", "heap", "may_be_between"]) (c_BadHeap : ErrC P w K mg base "BadHeap" ca.c_BadHeap) (c_is_heap : CalE P w K mg base 5 "is_heap" (spD K 2 (f_is_heap ca))) (c_piles_between : Cal P w K mg base 3 "piles_between" (spD K 1 f_piles_between)) : CalE P w K mg base 6 "check_tide" (spD K 3 (f_check_tide ca)) :=
  D.calE fun _ _ F => fun_dE F sc_check_tide rfl (d_check_tide ca) (fun cdv A outer s H E hr hgd => (db_cons (ds_if (dt_not (dt_tru (de_callE c_is_heap passX hr (by decide) hgd (da_cons (de_sub (de_mul de_int (de_var (pv 0))) de_int) (da_cons (de_var (pv 1)) da_nil))))) (db_one (ds_raise c_BadHeap rfl takesX (hr.mono (by decide)) (de_var (pv 1)))) db_nil) (db_one (ds_if (DWx.pt (dw_and (dt_not (dt_tru (de_var (pv 2)))) (dw_and1 (dt_tru (de_call c_piles_between hr (by decide) hgd (da_cons (de_var (pv 1)) da_nil)))))) (db_one (ds_raise c_BadHeap rfl takesX (hr.mono (by decide)) (de_var (pv 1)))) db_nil)))) (h_check_tide ca)
theorem ok_turned_over_ (ca : CA) (B : Blt K mg) (D : DefAt K mg "turned_over" s_turned_over ["way", "days", "groups_heap", "rings_heap"]) (c_BadNumber : ErrC P w K mg base "BadNumber" ca.c_BadNumber) (c_is_from_to : Cal P w K mg base 2 "is_from_to" (spD K 3 f_is_from_to)) (c_piled : Cal P w K mg base 1 "piled" (spD K 1 f_piled)) (c_check_way : CalE P w K mg base 3 "check_way" (spD K 1 (f_check_way ca))) (c_turned_piles : Cal P w K mg base 3 "turned_piles" (spD K 2 f_turned_piles)) (c_piles_between : Cal P w K mg base 3 "piles_between" (spD K 1 f_piles_between)) (c_check_tide : CalE P w K mg base 6 "check_tide" (spD K 3 (f_check_tide ca))) : CalE P w K mg base 7 "turned_over" (spD K 4 (f_turned_over ca)) :=
  D.calE fun _ _ F => fun_dE F sc_turned_over rfl (d_turned_over ca) (fun cdv A outer s H E hr hgd => (db_cons (ds_expr (de_callE c_check_way passX hr (by decide) hgd (da_cons (de_var (pv 0)) da_nil))) (db_cons (ds_if (dt_not (dt_tru (de_call c_is_from_to hr (by decide) hgd (da_cons (de_var (pv 1)) (da_cons de_int (da_cons (de_add (de_gintE (i := 8) rfl B.c_GREATEST_LAST) de_int) da_nil)))))) (db_one (ds_raise c_BadNumber rfl takesX (hr.mono (by decide)) (de_var (pv 1)))) db_nil) (db_cons (ds_expr (de_callE c_check_tide passX hr (by decide) hgd (da_cons (de_var (pv 1)) (da_cons (de_var (pv 2)) (da_cons (de_eq hr.units (de_var (pv 0)) (de_gstrE rfl B.s_MEETS)) da_nil))))) (db_cons (ds_expr (de_callE c_check_tide passX hr (by decide) hgd (da_cons (de_var (pv 1)) (da_cons (de_var (pv 3)) (da_cons (de_eq hr.units (de_var (pv 0)) (de_gstrE rfl B.s_UNIONS)) da_nil))))) (db_cons (ds_set (fun _ h => ps_set (i := 4) sc_turned_over.nd rfl (by first | exact Or.inl rfl | exact Or.inr rfl) h) (de_sub (de_mul de_int (de_var (pv 1))) de_int)) (db_cons (ds_set (fun _ h => ps_set (i := 5) sc_turned_over.nd rfl (by first | exact Or.inl rfl | exact Or.inr rfl) h) (de_add (de_call c_turned_piles hr (by decide) hgd (da_cons (de_var (pv 2)) (da_cons (de_var (pv 4)) da_nil))) (de_call c_piles_between hr (by decide) hgd (da_cons (de_var (pv 3)) da_nil)))) (db_cons (ds_set (fun _ h => ps_set (i := 6) sc_turned_over.nd rfl (by first | exact Or.inl rfl | exact Or.inr rfl) h) (de_add (de_call c_turned_piles hr (by decide) hgd (da_cons (de_var (pv 3)) (da_cons (de_var (pv 4)) da_nil))) (de_call c_piles_between hr (by decide) hgd (da_cons (de_var (pv 2)) da_nil)))) (db_one (ds_ret (de_tup (da_cons (de_call c_piled hr (by decide) hgd (da_cons (de_var (pv 5)) da_nil)) (da_cons (de_call c_piled hr (by decide) hgd (da_cons (de_var (pv 6)) da_nil)) da_nil))))))))))))) (h_turned_over ca)
theorem ok__law_source_ (B : Blt K mg) (D : DefAt K mg "_law_source" s__law_source ["_law_script", "_law_start"]) : Cal P w K mg base 1 "_law_source" (spN K ok__law_source) :=
  D.cal fun _ _ F => fun_n0 F sc__law_source rfl (by decide) (d__law_source) (fun cdv A outer s H E hr hgd => (dn_cons (ds_set (fun _ h => ps_set (i := 2) sc__law_source.nd rfl (by first | exact Or.inl rfl | exact Or.inr rfl) h) (de_add de_int (de_var (pv 1)))) (dn_cons (ds_for PassesOwn.never rfl (di_scr (pv 0)) (dg_name (pg_name (i := 3) sc__law_source.nd rfl (by first | exact Or.inl rfl | exact Or.inr rfl))) (db_one (ds_set (fun _ h => ps_set (i := 2) sc__law_source.nd rfl (by first | exact Or.inl rfl | exact Or.inr rfl) h) (de_add (de_mod (de_intc B.b_int (da_cons (de_pow (de_intc B.b_int (da_cons (de_add (de_mul (de_var (pv 2)) de_int) (de_intc B.b_int (da_cons (de_var (pv 3)) da_nil))) da_nil)) de_int) da_nil)) de_int) de_int)))) (dn_cons (ds_set (fun _ h => ps_set (i := 4) sc__law_source.nd rfl (by first | exact Or.inl rfl | exact Or.inr rfl) h) de_int) (dn_cons (ds_if (DWx.pt (dw_and (dt_lt (de_var (pv 1)) (de_lenO' B.b_len (pv 0))) (dw_and1 (dt_ge (de_scrIx (pv 0) (de_var (pv 1))) (de_pow de_int de_int))))) (db_one (ds_set (fun _ h => ps_set (i := 4) sc__law_source.nd rfl (by first | exact Or.inl rfl | exact Or.inr rfl) h) (de_sub (de_scrIx (pv 0) (de_var (pv 1))) (de_pow de_int de_int)))) db_nil) (dn_ret (da_cons (de_var (pv 4)) (da_cons (de_var (pv 2)) da_nil)))))))) (h__law_source)
theorem ok__law_draw_ (B : Blt K mg) (D : DefAt K mg "_law_draw" s__law_draw ["_law_source_here", "_law_span"]) : Cal P w K mg base 1 "_law_draw" (spS K 2 f__law_draw) :=
  D.cal fun _ _ F => fun_s0 F sc__law_draw rfl (by decide) (d__law_draw) (fun cdv A outer s H E hr hgd => (db_cons (ds_if (dt_ge (de_src0 (pv 0)) (de_var (pv 1))) (db_cons (ds_set (fun _ h => ps_set (i := 2) sc__law_draw.nd rfl (by first | exact Or.inl rfl | exact Or.inr rfl) h) (de_mod (de_intc B.b_int (da_cons (de_src0 (pv 0)) da_nil)) (de_var (pv 1)))) (db_cons (ds_src0 (pv 0) (de_div (de_src0 (pv 0)) (de_var (pv 1))) fun _ h => ps_asg h (pg_sub (pv 0) pe_int set_list)) (db_one (ds_ret (de_var (pv 2)))))) db_nil) (db_cons (ds_src1 (pv 0) (de_mod (de_intc B.b_int (da_cons (de_add (de_mul (de_src1 (pv 0)) de_int) de_int) da_nil)) de_int) fun _ h => ps_asg h (pg_sub (pv 0) pe_int set_list)) (db_one (ds_ret (de_mod (de_intc B.b_int (da_cons (de_div (de_mod (de_intc B.b_int (da_cons (de_pow (de_intc B.b_int (da_cons (de_src1 (pv 0)) da_nil)) de_int) da_nil)) de_int) de_int) da_nil)) (de_var (pv 1)))))))) (h__law_draw)
theorem ok__law_pick_ (B : Blt K mg) (D : DefAt K mg "_law_pick" s__law_pick ["_law_source_here", "_law_some"]) (c__law_draw : Cal P w K mg base 1 "_law_draw" (spS K 2 f__law_draw)) : Cal P w K mg base 2 "_law_pick" (spS K 2 f__law_pick) :=
  D.cal fun _ _ F => fun_s0 F sc__law_pick rfl (by decide) (d__law_pick) (fun cdv A outer s H E hr hgd => (db_one (ds_ret (de_ix (de_var (pv 1)) (de_callS c__law_draw hr (by decide) hgd (pv 0) (da_cons (de_len B.b_len (da_cons (de_var (pv 1)) da_nil)) da_nil)))))) (h__law_pick)
theorem ok__law_same_ (B : Blt K mg) (D : DefAt K mg "_law_same" s__law_same ["_law_told", "_law_due"]) : Cal P w K mg base 1 "_law_same" (spD K 2 f__law_same) :=
  D.cal fun _ _ F => fun_d0 F sc__law_same rfl (d__law_same) (fun cdv A outer s H E hr hgd => (db_one (ds_ret (de_eq hr.units (de_reprD hgd hr.units B.b_repr (da_cons (de_var (pv 0)) da_nil)) (de_reprD hgd hr.units B.b_repr (da_cons (de_var (pv 1)) da_nil)))))) (h__law_same)
theorem ok__law_is_lone_ (B : Blt K mg) (D : DefAt K mg "_law_is_lone" s__law_is_lone ["_law_bar"]) : Cal P w K mg base 1 "_law_is_lone" (spD K 1 f__law_is_lone) :=
  D.cal fun _ _ F => fun_d0 F sc__law_is_lone rfl (d__law_is_lone) (fun cdv A outer s H E hr hgd => (db_one (ds_ret (de_and (de_eq hr.units (de_ix (de_var (pv 0)) de_int) (de_ix (de_var (pv 0)) de_int)) (de_one (de_eq hr.units (de_mod (de_ix (de_var (pv 0)) de_int) de_int) de_int)))))) (h__law_is_lone)
theorem ok__law_tide_ (B : Blt K mg) (D : DefAt K mg "_law_tide" s__law_tide ["_law_heap", "_law_last"]) : Cal P w K mg base 1 "_law_tide" (spD K 2 f__law_tide) :=
  D.cal fun _ _ F => fun_d0 F sc__law_tide rfl (d__law_tide) (fun cdv A outer s H E hr hgd => (db_cons (ds_parNN (i := 2) (j := 3) (fun _ h => ps_par (i := 2) (j := 3) rfl sc__law_tide.nd rfl rfl (by decide) rfl rfl h (by rfl))) (db_cons (ds_for PassesOwn.never rfl (di_seq (de_var (pv 0))) (dg_tup rfl (dgs_cons (dg_name (pg_name (i := 4) sc__law_tide.nd rfl (by first | exact Or.inl rfl | exact Or.inr rfl))) (dgs_cons (dg_name (pg_name (i := 5) sc__law_tide.nd rfl (by first | exact Or.inl rfl | exact Or.inr rfl))) (dgs_cons (dg_name (pg_name (i := 6) sc__law_tide.nd rfl (by first | exact Or.inl rfl | exact Or.inr rfl))) dgs_nil)))) (db_one (ds_if (DWx.pt (dw_and (dt_eq hr.units (de_var (pv 4)) (de_var (pv 5))) (dw_and1 (dt_eq hr.units (de_mod (de_var (pv 4)) de_int) de_int)))) (db_one (ds_app (pv 3) (de_tup (da_cons (de_var (pv 4)) (da_cons (de_var (pv 5)) (da_cons (de_var (pv 6)) da_nil)))) (mk := fun _ h => pe_bm PySem.F.plainAttrs_list PySem.F.slot_list_append PySem.F.type_list_append mt_append (pv 3) (pa_cons h pa_nil)))) (db_cons (ds_par (i := 7) (j := 8) (fun _ h => ps_par (i := 7) (j := 8) rfl sc__law_tide.nd rfl rfl (by decide) rfl rfl h (by rfl)) (da_cons (de_ix (de_lst (da_cons (de_sub (de_var (pv 4)) de_int) (da_cons (de_add (de_var (pv 4)) de_int) da_nil))) (de_mod (de_var (pv 4)) de_int)) (da_cons (de_ix (de_lst (da_cons (de_add (de_var (pv 5)) de_int) (da_cons (de_sub (de_var (pv 5)) de_int) da_nil))) (de_mod (de_var (pv 5)) de_int)) da_nil))) (db_one (ds_app (pv 2) (de_tup (da_cons (de_if (dt_gt (de_var (pv 4)) de_int) (de_var (pv 7)) de_int) (da_cons (de_if (dt_lt (de_var (pv 5)) (de_var (pv 1))) (de_var (pv 8)) (de_var (pv 1))) (da_cons (de_var (pv 6)) da_nil)))) (mk := fun _ h => pe_bm PySem.F.plainAttrs_list PySem.F.slot_list_append PySem.F.type_list_append mt_append (pv 2) (pa_cons h pa_nil)))))))) (db_one (ds_ret (de_lst (da_cons (de_varF (pv 2)) (da_cons (de_varF (pv 3)) da_nil)))))))) (h__law_tide)
theorem ok__law_turned_heaps_ (B : Blt K mg) (D : DefAt K mg "_law_turned_heaps" s__law_turned_heaps ["_law_way", "_law_groups_heap", "_law_rings_heap", "_law_last"]) (c__law_tide : Cal P w K mg base 1 "_law_tide" (spD K 2 f__law_tide)) : Cal P w K mg base 2 "_law_turned_heaps" (spD K 4 f__law_turned_heaps) :=
  D.cal fun _ _ F => fun_d0 F sc__law_turned_heaps rfl (d__law_turned_heaps) (fun cdv A outer s H E hr hgd => (db_cons (ds_set (fun _ h => ps_set (i := 4) sc__law_turned_heaps.nd rfl (by first | exact Or.inl rfl | exact Or.inr rfl) h) (de_lst (da_cons (de_call c__law_tide hr (by decide) hgd (da_cons (de_var (pv 1)) (da_cons (de_var (pv 3)) da_nil))) (da_cons (de_call c__law_tide hr (by decide) hgd (da_cons (de_var (pv 2)) (da_cons (de_var (pv 3)) da_nil))) da_nil)))) (db_one (ds_ret (de_tup (da_cons (de_tuple B.b_tuple (da_cons (de_sortedD hr.units (de_add (de_ix (de_ix (de_var (pv 4)) de_int) de_int) (de_ix (de_ix (de_var (pv 4)) de_int) de_int)) fun _ c _ h => pe_callB c rfl B.b_sorted PyProof.Rows.boot_sorted (pa_cons h pa_nil)) da_nil)) (da_cons (de_tuple B.b_tuple (da_cons (de_sortedD hr.units (de_add (de_ix (de_ix (de_var (pv 4)) de_int) de_int) (de_ix (de_ix (de_var (pv 4)) de_int) de_int)) fun _ c _ h => pe_callB c rfl B.b_sorted PyProof.Rows.boot_sorted (pa_cons h pa_nil)) da_nil)) da_nil))))))) (h__law_turned_heaps)
theorem ok__law_drawn_heap_ (B : Blt K mg) (D : DefAt K mg "_law_drawn_heap" s__law_drawn_heap ["_law_source_here", "_law_days", "_law_may_be_lone"]) (c__law_draw : Cal P w K mg base 1 "_law_draw" (spS K 2 f__law_draw)) (c__law_is_lone : Cal P w K mg base 1 "_law_is_lone" (spD K 1 f__law_is_lone)) : Cal P w K mg base 2 "_law_drawn_heap" (spS K 3 f__law_drawn_heap) :=
  D.cal fun _ _ F => fun_s0 F sc__law_drawn_heap rfl (by decide) (d__law_drawn_heap) (fun cdv A outer s H E hr hgd => (db_cons (ds_asgED (i := 3) (j := 4) (fun _ h => ps_asg (pe_tup h) (pg_tup rfl (pgs_cons (pg_name (i := 3) sc__law_drawn_heap.nd rfl (by first | exact Or.inl rfl | exact Or.inr rfl)) (pgs_cons (pg_name (i := 4) sc__law_drawn_heap.nd rfl (by first | exact Or.inl rfl | exact Or.inr rfl)) pgs_nil)))) (de_sub (de_mul de_int (de_var (pv 1))) de_int)) (db_cons (ds_for PassesOwn.never rfl (di_range1 rfl B.b_range (de_callS c__law_draw hr (by decide) hgd (pv 0) (da_cons de_int da_nil))) (dg_name (pg_name (i := 5) sc__law_drawn_heap.nd rfl (by first | exact Or.inl rfl | exact Or.inr rfl))) (db_cons (ds_set (fun _ h => ps_set (i := 6) sc__law_drawn_heap.nd rfl (by first | exact Or.inl rfl | exact Or.inr rfl) h) (de_callS c__law_draw hr (by decide) hgd (pv 0) (da_cons (de_add (de_var (pv 4)) de_int) da_nil))) (db_cons (ds_set (fun _ h => ps_set (i := 7) sc__law_drawn_heap.nd rfl (by first | exact Or.inl rfl | exact Or.inr rfl) h) (de_add (de_var (pv 6)) (de_callS c__law_draw hr (by decide) hgd (pv 0) (da_cons (de_sub (de_add (de_var (pv 4)) de_int) (de_var (pv 6))) da_nil)))) (db_cons (ds_if (dt_eq hr.units (de_callS c__law_draw hr (by decide) hgd (pv 0) (da_cons de_int da_nil)) de_int) (db_one (ds_set (fun _ h => ps_set (i := 7) sc__law_drawn_heap.nd rfl (by first | exact Or.inl rfl | exact Or.inr rfl) h) (de_var (pv 6)))) db_nil) (db_one (ds_if (DWx.pt (dw_or (dt_tru (de_var (pv 2))) (dw_or1 (dt_not (dt_tru (de_call c__law_is_lone hr (by decide) hgd (da_cons (de_tup (da_cons (de_var (pv 6)) (da_cons (de_var (pv 7)) da_nil))) da_nil))))))) (db_one (ds_dset (pv 3) (de_add (de_dgetD (units1 hr) (pv 3) (da_cons (de_var (pv 6)) (da_cons (de_var (pv 7)) da_nil)) de_int ⟨rfl, rfl, rfl, rfl⟩) de_int) (da_cons (de_var (pv 6)) (da_cons (de_var (pv 7)) da_nil)) fun _ _ h1 h2 => ps_dput (units1 hr) (pv 3) h2 h1 rfl)) db_nil)))))) (db_one (ds_ret (de_tuple B.b_tuple (da_cons (de_comp [("_law_bar", 8)] rfl sc__law_drawn_heap.nd (di_seq (de_sortedO (pe_callB (cr_sortedDT rfl) rfl B.b_sorted PyProof.Rows.boot_sorted (pa_cons (pv 3) pa_nil)))) (blkOk_by (N := ["_law_source_here", "_law_days", "_law_may_be_lone", "_law_found", "_law_last", "_law_turn", "_law_begin", "_law_end", "_law_bar"]) (sc := defScope s__law_drawn_heap) (by decide +kernel)) (fun _ _ _ _ _ => (dg_name (pg_name (i := 8) sc__law_drawn_heap.nd rfl (by first | exact Or.inl rfl | exact Or.inr rfl)))) (fun _ _ _ _ _ => dts_nil) (fun _ _ _ _ _ => (de_add (de_var (pv 8)) (de_tup (da_cons (de_dgetE (units1 hr) (pv 3) (de_var (pv 8))) da_nil))))) da_nil))))))) (h__law_drawn_heap)
theorem ok__law_odd_heap_ (B : Blt K mg) (D : DefAt K mg "_law_odd_heap" s__law_odd_heap ["_law_source_here", "_law_days"]) (c__law_pick : Cal P w K mg base 2 "_law_pick" (spS K 2 f__law_pick)) : Cal P w K mg base 3 "_law_odd_heap" (spS K 2 f__law_odd_heap) :=
  D.cal fun _ _ F => fun_s0 F sc__law_odd_heap rfl (by decide) (d__law_odd_heap) (fun cdv A outer s H E hr hgd => (db_cons (ds_set (fun _ h => ps_set (i := 2) sc__law_odd_heap.nd rfl (by first | exact Or.inl rfl | exact Or.inr rfl) h) (de_sub (de_mul de_int (de_var (pv 1))) de_int)) (db_cons (ds_set (fun _ h => ps_set (i := 3) sc__law_odd_heap.nd rfl (by first | exact Or.inl rfl | exact Or.inr rfl) h) (de_lst (da_cons de_non (da_cons (de_lst da_nil) (da_cons de_int (da_cons de_str (da_cons (de_tup (da_cons (de_tup (da_cons de_int (da_cons de_int (da_cons de_int da_nil)))) da_nil)) (da_cons (de_tup (da_cons (de_tup (da_cons de_int (da_cons de_int da_nil))) da_nil)) (da_cons (de_tup (da_cons (de_tup (da_cons de_int (da_cons (de_add (de_var (pv 2)) de_int) (da_cons de_int da_nil)))) da_nil)) (da_cons (de_tup (da_cons (de_tup (da_cons (de_sub de_int de_int) (da_cons de_int (da_cons de_int da_nil)))) da_nil)) (da_cons (de_tup (da_cons (de_lst (da_cons de_int (da_cons de_int (da_cons de_int da_nil)))) da_nil)) da_nil))))))))))) (db_cons (ds_set (fun _ h => ps_set (i := 3) sc__law_odd_heap.nd rfl (by first | exact Or.inl rfl | exact Or.inr rfl) h) (de_add (de_var (pv 3)) (de_lst (da_cons (de_tup (da_cons (de_tup (da_cons (de_var (pv 2)) (da_cons (de_sub (de_var (pv 2)) de_int) (da_cons de_int da_nil)))) da_nil)) (da_cons (de_tup (da_cons (de_tup (da_cons de_int (da_cons de_int (da_cons de_int da_nil)))) da_nil)) da_nil))))) (db_cons (ds_set (fun _ h => ps_set (i := 3) sc__law_odd_heap.nd rfl (by first | exact Or.inl rfl | exact Or.inr rfl) h) (de_add (de_var (pv 3)) (de_lst (da_cons (de_tup (da_cons (de_tup (da_cons de_int (da_cons de_int (da_cons de_int da_nil)))) (da_cons (de_tup (da_cons de_int (da_cons de_int (da_cons de_int da_nil)))) da_nil))) (da_cons (de_tup (da_cons (de_tup (da_cons de_int (da_cons de_int (da_cons de_bl da_nil)))) da_nil)) (da_cons (de_tup (da_cons (de_tup (da_cons de_bl (da_cons de_int (da_cons de_int da_nil)))) da_nil)) (da_cons (de_lst (da_cons (de_tup (da_cons de_int (da_cons de_int (da_cons de_int da_nil)))) da_nil)) (da_cons (de_dict1T (units1 hr) (da_cons de_int (da_cons de_int da_nil)) de_int) (da_cons (de_tup (da_cons (de_tup (da_cons de_int (da_cons de_int (da_cons de_int (da_cons de_int da_nil))))) da_nil)) da_nil))))))))) (db_cons (ds_if (dt_gt (de_var (pv 2)) de_int) (db_one (ds_set (fun _ h => ps_set (i := 3) sc__law_odd_heap.nd rfl (by first | exact Or.inl rfl | exact Or.inr rfl) h) (de_add (de_var (pv 3)) (de_lst (da_cons (de_tup (da_cons (de_tup (da_cons de_int (da_cons de_int (da_cons de_int da_nil)))) (da_cons (de_tup (da_cons de_int (da_cons de_int (da_cons de_int da_nil)))) da_nil))) (da_cons (de_tup (da_cons (de_tup (da_cons de_int (da_cons de_int (da_cons de_int da_nil)))) da_nil)) (da_cons (de_tup (da_cons (de_tup (da_cons de_int (da_cons de_int (da_cons de_int da_nil)))) (da_cons (de_tup (da_cons de_int (da_cons de_int (da_cons de_int da_nil)))) da_nil))) (da_cons (de_tup (da_cons (de_tup (da_cons de_int (da_cons de_int (da_cons de_int da_nil)))) (da_cons (de_tup (da_cons de_int (da_cons de_int (da_cons de_int da_nil)))) da_nil))) da_nil)))))))) db_nil) (db_one (ds_ret (de_callS c__law_pick hr (by decide) hgd (pv 0) (da_cons (de_var (pv 3)) da_nil)))))))))) (h__law_odd_heap)
theorem ok__law_refused_right_ (ca : CA) (B : Blt K mg) (D : DefC K mg "_law_refused_right" s__law_refused_right ["_law_source_here", "_law_days"] ca.k__law_refused_right) (c_turned_over : CalE P w K mg base 7 "turned_over" (spD K 4 (f_turned_over ca))) (c__law_draw : Cal P w K mg base 1 "_law_draw" (spS K 2 f__law_draw)) (c__law_pick : Cal P w K mg base 2 "_law_pick" (spS K 2 f__law_pick)) (c__law_same : Cal P w K mg base 1 "_law_same" (spD K 2 f__law_same)) (c__law_odd_heap : Cal P w K mg base 3 "_law_odd_heap" (spS K 2 f__law_odd_heap)) (D__law_caught : DefAt K mg "_law_caught" s__law_caught ["_law_call"]) (a_BadHeap : ErrA K mg "BadHeap" ca.c_BadHeap ca.fI) (a_BadNumber : ErrA K mg "BadNumber" ca.c_BadNumber ca.fI) (a_BadWay : ErrA K mg "BadWay" ca.c_BadWay ca.fI) (xm : ExmOk K (exs ca)) (tb : TabB base mg ca.k__law_refused_right ca.p__law_refused_right) : Cal P w K mg base 10 "_law_refused_right" (spST K (tabs ca) 2 (f__law_refused_right ca)) :=
  D.cal fun _ _ F hc => fun_sT F sc__law_refused_right rfl (by decide) hc (d__law_refused_right ca) (fun cdv A outer s H E hr hgd cd => (db_cons (ds_set (fun _ h => ps_set (i := 2) sc__law_refused_right.nd rfl (by first | exact Or.inl rfl | exact Or.inr rfl) h) (de_callS c__law_pick hr (by decide) hgd (pv 0) (da_cons (de_lst (da_cons de_non (da_cons de_str (da_cons de_str (da_cons (de_tup (da_cons de_str da_nil)) (da_cons de_int (da_cons de_bl (da_cons (de_lst (da_cons de_str da_nil)) da_nil)))))))) da_nil))) (db_cons (ds_set (fun _ h => ps_set (i := 3) sc__law_refused_right.nd rfl (by first | exact Or.inl rfl | exact Or.inr rfl) h) (de_callS c__law_pick hr (by decide) hgd (pv 0) (da_cons (de_lst (da_cons de_non (da_cons de_int (da_cons de_int (da_cons de_str (da_cons de_bl (da_cons (de_tup (da_cons de_int da_nil)) (da_cons (de_sub de_int de_int) (da_cons (de_pow de_int de_int) (da_cons (de_lst da_nil) da_nil)))))))))) da_nil))) (db_cons (ds_asg (de_tup (da_cons (de_callS c__law_odd_heap hr (by decide) hgd (pv 0) (da_cons (de_var (pv 1)) da_nil)) (da_cons (de_callS c__law_pick hr (by decide) hgd (pv 0) (da_cons (de_lst (da_cons de_str (da_cons de_str da_nil))) da_nil)) da_nil))) (dg_tup rfl (dgs_cons (dg_name (pg_name (i := 4) sc__law_refused_right.nd rfl (by first | exact Or.inl rfl | exact Or.inr rfl))) (dgs_cons (dg_name (pg_name (i := 5) sc__law_refused_right.nd rfl (by first | exact Or.inl rfl | exact Or.inr rfl))) dgs_nil)))) (db_cons (ds_setO (fun _ h => ps_set (i := 6) sc__law_refused_right.nd rfl (by first | exact Or.inl rfl | exact Or.inr rfl) h) (da_cons (de_caughtD (k := 7) (c := ca.k__law_refused_right) (P := ca.p__law_refused_right) (cs := [(ca.c_BadWay, "way"), (ca.c_BadNumber, "number"), (ca.c_BadHeap, "heap")]) D__law_caught sc__law_caught rfl (.inl rfl) (fun _ _ => caughtG (ca := ca) a_BadWay a_BadNumber a_BadHeap) xm tb cd (by kernel_rfl) hr hgd (by kernel_rfl) (fun A outer s H E f d hr hgd => (de_callE c_turned_over passLam hr (by decide) hgd (da_cons (de_var (pv 2)) (da_cons (de_var (pv 3)) (da_cons (de_var (pv 4)) (da_cons (de_var (pv 4)) da_nil))))))) da_nil)) (db_cons (ds_app (pv 6) (de_caughtD (k := 7) (c := ca.k__law_refused_right) (P := ca.p__law_refused_right) (cs := [(ca.c_BadWay, "way"), (ca.c_BadNumber, "number"), (ca.c_BadHeap, "heap")]) D__law_caught sc__law_caught rfl (.inl rfl) (fun _ _ => caughtG (ca := ca) a_BadWay a_BadNumber a_BadHeap) xm tb cd (by kernel_rfl) hr hgd (by kernel_rfl) (fun A outer s H E f d hr hgd => (de_callE c_turned_over passLam hr (by decide) hgd (da_cons (de_var (pv 5)) (da_cons (de_var (pv 3)) (da_cons (de_var (pv 4)) (da_cons de_non da_nil))))))) (mk := fun _ h => pe_bm PySem.F.plainAttrs_list PySem.F.slot_list_append PySem.F.type_list_append mt_append (pv 6) (pa_cons h pa_nil))) (db_cons (ds_app (pv 6) (de_caughtD (k := 7) (c := ca.k__law_refused_right) (P := ca.p__law_refused_right) (cs := [(ca.c_BadWay, "way"), (ca.c_BadNumber, "number"), (ca.c_BadHeap, "heap")]) D__law_caught sc__law_caught rfl (.inl rfl) (fun _ _ => caughtG (ca := ca) a_BadWay a_BadNumber a_BadHeap) xm tb cd (by kernel_rfl) hr hgd (by kernel_rfl) (fun A outer s H E f d hr hgd => (de_callE c_turned_over passLam hr (by decide) hgd (da_cons (de_var (pv 5)) (da_cons (de_var (pv 1)) (da_cons (de_var (pv 4)) (da_cons de_non da_nil))))))) (mk := fun _ h => pe_bm PySem.F.plainAttrs_list PySem.F.slot_list_append PySem.F.type_list_append mt_append (pv 6) (pa_cons h pa_nil))) (db_cons (ds_app (pv 6) (de_caughtD (k := 7) (c := ca.k__law_refused_right) (P := ca.p__law_refused_right) (cs := [(ca.c_BadWay, "way"), (ca.c_BadNumber, "number"), (ca.c_BadHeap, "heap")]) D__law_caught sc__law_caught rfl (.inl rfl) (fun _ _ => caughtG (ca := ca) a_BadWay a_BadNumber a_BadHeap) xm tb cd (by kernel_rfl) hr hgd (by kernel_rfl) (fun A outer s H E f d hr hgd => (de_callE c_turned_over passLam hr (by decide) hgd (da_cons (de_var (pv 5)) (da_cons (de_var (pv 1)) (da_cons (de_tup da_nil) (da_cons (de_var (pv 4)) da_nil))))))) (mk := fun _ h => pe_bm PySem.F.plainAttrs_list PySem.F.slot_list_append PySem.F.type_list_append mt_append (pv 6) (pa_cons h pa_nil))) (db_cons (ds_if (dt_not (dt_tru (de_call c__law_same hr (by decide) hgd (da_cons (de_varF (pv 6)) (da_cons (de_lst (da_cons (de_lst (da_cons de_str (da_cons (de_var (pv 2)) da_nil))) (da_cons (de_lst (da_cons de_str (da_cons (de_var (pv 3)) da_nil))) (da_cons (de_lst (da_cons de_str (da_cons (de_var (pv 4)) da_nil))) (da_cons (de_lst (da_cons de_str (da_cons (de_var (pv 4)) da_nil))) da_nil))))) da_nil))))) (db_one (ds_ret de_bl)) db_nil) (db_cons (ds_if (dt_lt (de_var (pv 1)) de_int) (db_one (ds_ret de_bl)) db_nil) (db_cons (ds_set (fun _ h => ps_set (i := 7) sc__law_refused_right.nd rfl (by first | exact Or.inl rfl | exact Or.inr rfl) h) (de_add (de_mul de_int (de_callS c__law_draw hr (by decide) hgd (pv 0) (da_cons (de_sub (de_var (pv 1)) de_int) da_nil))) de_int)) (db_cons (ds_set (fun _ h => ps_set (i := 8) sc__law_refused_right.nd rfl (by first | exact Or.inl rfl | exact Or.inr rfl) h) (de_tup (da_cons (de_tup (da_cons de_int (da_cons (de_sub (de_var (pv 7)) de_int) (da_cons de_int da_nil)))) (da_cons (de_tup (da_cons (de_var (pv 7)) (da_cons (de_var (pv 7)) (da_cons (de_add de_int (de_callS c__law_draw hr (by decide) hgd (pv 0) (da_cons de_int da_nil))) da_nil)))) (da_cons (de_tup (da_cons (de_add (de_var (pv 7)) de_int) (da_cons (de_sub (de_mul de_int (de_var (pv 1))) de_int) (da_cons de_int da_nil)))) da_nil))))) (db_cons (ds_setO (fun _ h => ps_set (i := 6) sc__law_refused_right.nd rfl (by first | exact Or.inl rfl | exact Or.inr rfl) h) (da_cons (de_caughtD (k := 7) (c := ca.k__law_refused_right) (P := ca.p__law_refused_right) (cs := [(ca.c_BadWay, "way"), (ca.c_BadNumber, "number"), (ca.c_BadHeap, "heap")]) D__law_caught sc__law_caught rfl (.inl rfl) (fun _ _ => caughtG (ca := ca) a_BadWay a_BadNumber a_BadHeap) xm tb cd (by kernel_rfl) hr hgd (by kernel_rfl) (fun A outer s H E f d hr hgd => (de_callE c_turned_over passLam hr (by decide) hgd (da_cons de_str (da_cons (de_var (pv 1)) (da_cons (de_var (pv 8)) (da_cons (de_var (pv 4)) da_nil))))))) da_nil)) (db_cons (ds_app (pv 6) (de_caughtD (k := 7) (c := ca.k__law_refused_right) (P := ca.p__law_refused_right) (cs := [(ca.c_BadWay, "way"), (ca.c_BadNumber, "number"), (ca.c_BadHeap, "heap")]) D__law_caught sc__law_caught rfl (.inl rfl) (fun _ _ => caughtG (ca := ca) a_BadWay a_BadNumber a_BadHeap) xm tb cd (by kernel_rfl) hr hgd (by kernel_rfl) (fun A outer s H E f d hr hgd => (de_callE c_turned_over passLam hr (by decide) hgd (da_cons de_str (da_cons (de_var (pv 1)) (da_cons (de_tup da_nil) (da_cons (de_var (pv 8)) da_nil))))))) (mk := fun _ h => pe_bm PySem.F.plainAttrs_list PySem.F.slot_list_append PySem.F.type_list_append mt_append (pv 6) (pa_cons h pa_nil))) (db_one (ds_ret (de_call c__law_same hr (by decide) hgd (da_cons (de_varF (pv 6)) (da_cons (de_mul (de_lst (da_cons (de_lst (da_cons de_str (da_cons (de_var (pv 8)) da_nil))) da_nil)) de_int) da_nil))))))))))))))))))) (h__law_refused_right ca)
theorem ok__law_crowded_right_ (ca : CA) (B : Blt K mg) (D : DefC K mg "_law_crowded_right" s__law_crowded_right ["_law_source_here", "_law_days"] ca.k__law_crowded_right) (c_turned_over : CalE P w K mg base 7 "turned_over" (spD K 4 (f_turned_over ca))) (c__law_draw : Cal P w K mg base 1 "_law_draw" (spS K 2 f__law_draw)) (c__law_same : Cal P w K mg base 1 "_law_same" (spD K 2 f__law_same)) (D__law_caught : DefAt K mg "_law_caught" s__law_caught ["_law_call"]) (a_BadHeap : ErrA K mg "BadHeap" ca.c_BadHeap ca.fI) (a_BadNumber : ErrA K mg "BadNumber" ca.c_BadNumber ca.fI) (a_BadWay : ErrA K mg "BadWay" ca.c_BadWay ca.fI) (xm : ExmOk K (exs ca)) (tb : TabB base mg ca.k__law_crowded_right ca.p__law_crowded_right) : Cal P w K mg base 10 "_law_crowded_right" (spST K (tabs ca) 2 (f__law_crowded_right ca)) :=
  D.cal fun _ _ F hc => fun_sT F sc__law_crowded_right rfl (by decide) hc (d__law_crowded_right ca) (fun cdv A outer s H E hr hgd cd => (db_cons (ds_par (i := 2) (j := 3) (fun _ h => ps_par (i := 2) (j := 3) rfl sc__law_crowded_right.nd rfl rfl (by decide) rfl rfl h (by rfl)) (da_cons (de_add (de_mul de_int (de_callS c__law_draw hr (by decide) hgd (pv 0) (da_cons (de_sub (de_var (pv 1)) de_int) da_nil))) de_int) (da_cons (de_sub (de_mul de_int (de_var (pv 1))) de_int) da_nil))) (db_cons (ds_par (i := 4) (j := 5) (fun _ h => ps_par (i := 4) (j := 5) rfl sc__law_crowded_right.nd rfl rfl (by decide) rfl rfl h (by rfl)) (da_cons (de_tup (da_cons (de_var (pv 2)) (da_cons (de_var (pv 2)) (da_cons (de_add de_int (de_callS c__law_draw hr (by decide) hgd (pv 0) (da_cons de_int da_nil))) da_nil)))) (da_cons (de_tup (da_cons de_int (da_cons (de_var (pv 3)) (da_cons (de_add de_int (de_callS c__law_draw hr (by decide) hgd (pv 0) (da_cons de_int da_nil))) da_nil)))) da_nil))) (db_cons (ds_set (fun _ h => ps_set (i := 6) sc__law_crowded_right.nd rfl (by first | exact Or.inl rfl | exact Or.inr rfl) h) (de_tuple B.b_tuple (da_cons (de_sortedD hr.units (de_lst (da_cons (de_var (pv 4)) (da_cons (de_var (pv 5)) da_nil))) fun _ c _ h => pe_callB c rfl B.b_sorted PyProof.Rows.boot_sorted (pa_cons h pa_nil)) da_nil))) (db_cons (ds_if (dt_not (dt_tru (de_call c__law_same hr (by decide) hgd (da_cons (de_callE c_turned_over passL hr (by decide) hgd (da_cons de_str (da_cons (de_var (pv 1)) (da_cons (de_tup (da_cons (de_var (pv 5)) da_nil)) (da_cons (de_tup (da_cons (de_var (pv 4)) da_nil)) da_nil))))) (da_cons (de_tup (da_cons (de_var (pv 6)) (da_cons (de_tup da_nil) da_nil))) da_nil))))) (db_one (ds_ret de_bl)) db_nil) (db_cons (ds_if (dt_not (dt_tru (de_call c__law_same hr (by decide) hgd (da_cons (de_callE c_turned_over passL hr (by decide) hgd (da_cons de_str (da_cons (de_var (pv 1)) (da_cons (de_tup (da_cons (de_var (pv 4)) da_nil)) (da_cons (de_tup (da_cons (de_var (pv 5)) da_nil)) da_nil))))) (da_cons (de_tup (da_cons (de_tup da_nil) (da_cons (de_var (pv 6)) da_nil))) da_nil))))) (db_one (ds_ret de_bl)) db_nil) (db_cons (ds_setO (fun _ h => ps_set (i := 7) sc__law_crowded_right.nd rfl (by first | exact Or.inl rfl | exact Or.inr rfl) h) (da_cons (de_caughtD (k := 7) (c := ca.k__law_crowded_right) (P := ca.p__law_crowded_right) (cs := [(ca.c_BadWay, "way"), (ca.c_BadNumber, "number"), (ca.c_BadHeap, "heap")]) D__law_caught sc__law_caught rfl (.inl rfl) (fun _ _ => caughtG (ca := ca) a_BadWay a_BadNumber a_BadHeap) xm tb cd (by kernel_rfl) hr hgd (by kernel_rfl) (fun A outer s H E f d hr hgd => (de_callE c_turned_over passLam hr (by decide) hgd (da_cons de_str (da_cons (de_var (pv 1)) (da_cons (de_var (pv 6)) (da_cons (de_tup da_nil) da_nil))))))) da_nil)) (db_cons (ds_app (pv 7) (de_caughtD (k := 7) (c := ca.k__law_crowded_right) (P := ca.p__law_crowded_right) (cs := [(ca.c_BadWay, "way"), (ca.c_BadNumber, "number"), (ca.c_BadHeap, "heap")]) D__law_caught sc__law_caught rfl (.inl rfl) (fun _ _ => caughtG (ca := ca) a_BadWay a_BadNumber a_BadHeap) xm tb cd (by kernel_rfl) hr hgd (by kernel_rfl) (fun A outer s H E f d hr hgd => (de_callE c_turned_over passLam hr (by decide) hgd (da_cons de_str (da_cons (de_var (pv 1)) (da_cons (de_tup da_nil) (da_cons (de_var (pv 6)) da_nil))))))) (mk := fun _ h => pe_bm PySem.F.plainAttrs_list PySem.F.slot_list_append PySem.F.type_list_append mt_append (pv 7) (pa_cons h pa_nil))) (db_one (ds_ret (de_call c__law_same hr (by decide) hgd (da_cons (de_varF (pv 7)) (da_cons (de_mul (de_lst (da_cons (de_lst (da_cons de_str (da_cons (de_var (pv 6)) da_nil))) da_nil)) de_int) da_nil))))))))))))) (h__law_crowded_right ca)
theorem ok_law_ (ca : CA) (B : Blt K mg) {fl : Addr} {fdl : FuncData} (F : Fun K "law" "law" s_law fl fdl) (hc : CodeAt K "law" s_law fl ca.k_law) (c_turned_over : CalE P w K mg base 7 "turned_over" (spD K 4 (f_turned_over ca))) (c__law_source : Cal P w K mg base 1 "_law_source" (spN K ok__law_source)) (c__law_draw : Cal P w K mg base 1 "_law_draw" (spS K 2 f__law_draw)) (c__law_pick : Cal P w K mg base 2 "_law_pick" (spS K 2 f__law_pick)) (c__law_same : Cal P w K mg base 1 "_law_same" (spD K 2 f__law_same)) (c__law_turned_heaps : Cal P w K mg base 2 "_law_turned_heaps" (spD K 4 f__law_turned_heaps)) (c__law_drawn_heap : Cal P w K mg base 2 "_law_drawn_heap" (spS K 3 f__law_drawn_heap)) (c__law_refused_right : Cal P w K mg base 10 "_law_refused_right" (spST K (tabs ca) 2 (f__law_refused_right ca))) (c__law_crowded_right : Cal P w K mg base 10 "_law_crowded_right" (spST K (tabs ca) 2 (f__law_crowded_right ca))) (uT : ∀ p ∈ tabs ca, ∀ q ∈ tabs ca, p.1 = q.1 → p.2 = q.2) : FnG P w K mg base CX0 11 fl fdl ["_law_script"] (spLT K (tabs ca) ok_law) :=
  fun_lT uT F sc_law rfl (by decide) hc (d_law ca) (fun cdv A outer s H E hr hgd cd => (db_cons (ds_for PassesOwn.never rfl (di_range1 rfl B.b_range (de_max2 rfl B.b_max (da_cons de_int (da_cons (de_min2 rfl B.b_min (da_cons de_int (da_cons (de_lenO' B.b_len (pv 0)) da_nil))) da_nil)))) (dg_name (pg_name (i := 1) sc_law.nd rfl (by first | exact Or.inl rfl | exact Or.inr rfl))) (db_new (i := 2) c__law_source hr (by decide) hgd (pv 0) (de_var (pv 1)) (fun _ h => ps_set (i := 2) sc_law.nd rfl (by first | exact Or.inl rfl | exact Or.inr rfl) h) (db_one (ds_for PassesOwn.never rfl (di_range1 rfl B.b_range de_int) (dg_name (pg_name (i := 3) sc_law.nd rfl (by first | exact Or.inl rfl | exact Or.inr rfl))) (db_cons (ds_par (i := 4) (j := 5) (fun _ h => ps_par (i := 4) (j := 5) rfl sc_law.nd rfl rfl (by decide) rfl rfl h (by rfl)) (da_cons (de_add de_int (de_callS c__law_draw hr (by decide) hgd (pv 2) (da_cons de_int da_nil))) (da_cons (de_callS c__law_pick hr (by decide) hgd (pv 2) (da_cons (de_lst (da_cons de_str (da_cons de_str da_nil))) da_nil)) da_nil))) (db_cons (ds_set (fun _ h => ps_set (i := 6) sc_law.nd rfl (by first | exact Or.inl rfl | exact Or.inr rfl) h) (de_if (dt_eq hr.units (de_var (pv 5)) de_str) de_str de_str)) (db_cons (ds_set (fun _ h => ps_set (i := 7) sc_law.nd rfl (by first | exact Or.inl rfl | exact Or.inr rfl) h) (de_lst (da_cons (de_callS c__law_drawn_heap hr (by decide) hgd (pv 2) (da_cons (de_var (pv 4)) (da_cons (de_eq hr.units (de_var (pv 5)) de_str) da_nil))) (da_cons (de_callS c__law_drawn_heap hr (by decide) hgd (pv 2) (da_cons (de_var (pv 4)) (da_cons (de_eq hr.units (de_var (pv 5)) de_str) da_nil))) da_nil)))) (db_cons (ds_set (fun _ h => ps_set (i := 8) sc_law.nd rfl (by first | exact Or.inl rfl | exact Or.inr rfl) h) (de_callE c_turned_over passL hr (by decide) hgd (da_cons (de_var (pv 5)) (da_cons (de_var (pv 4)) (da_cons (de_ix (de_var (pv 7)) de_int) (da_cons (de_ix (de_var (pv 7)) de_int) da_nil)))))) (db_cons (ds_if (dt_not (dt_tru (de_call c__law_same hr (by decide) hgd (da_cons (de_var (pv 8)) (da_cons (de_call c__law_turned_heaps hr (by decide) hgd (da_cons (de_var (pv 5)) (da_cons (de_ix (de_var (pv 7)) de_int) (da_cons (de_ix (de_var (pv 7)) de_int) (da_cons (de_sub (de_mul de_int (de_var (pv 4))) de_int) da_nil))))) da_nil))))) (db_one (ds_ret de_bl)) db_nil) (db_cons (ds_if (dt_not (dt_tru (de_call c__law_same hr (by decide) hgd (da_cons (de_callE c_turned_over passL hr (by decide) hgd (da_cons (de_var (pv 6)) (da_cons (de_var (pv 4)) (da_cons (de_ix (de_var (pv 8)) de_int) (da_cons (de_ix (de_var (pv 8)) de_int) da_nil))))) (da_cons (de_tuple B.b_tuple (da_cons (de_var (pv 7)) da_nil)) da_nil))))) (db_one (ds_ret de_bl)) db_nil) (db_one (ds_if (DWx.pt (dw_or (dt_not (dt_tru (de_callT c__law_refused_right hr (by decide) hgd (pv 2) (da_cons (de_var (pv 4)) da_nil)))) (dw_or1 (DWx.pt (dw_and (dt_gt (de_var (pv 4)) de_int) (dw_and1 (dt_not (dt_tru (de_callT c__law_crowded_right hr (by decide) hgd (pv 2) (da_cons (de_var (pv 4)) da_nil)))))))))) (db_one (ds_ret de_bl)) db_nil)))))))))))) (db_one (ds_ret (de_eq hr.units (de_callE c_turned_over passL hr (by decide) hgd (da_cons de_str (da_cons de_int (da_cons (de_tup da_nil) (da_cons (de_tup da_nil) da_nil))))) (de_tup (da_cons (de_tup da_nil) (da_cons (de_tup da_nil) da_nil)))))))) (h_law ca)
theorem chain (ca : CA) (B : Blt K mg) (D_is_whole : DefAt K mg "is_whole" s_is_whole ["value"]) (D_is_from_to : DefAt K mg "is_from_to" s_is_from_to ["value", "low", "high"]) (D_is_tuple_long : DefAt K mg "is_tuple_long" s_is_tuple_long ["value", "many"]) (D_is_stretch_of : DefAt K mg "is_stretch_of" s_is_stretch_of ["places", "value"]) (D_check_places : DefAt K mg "check_places" s_check_places ["places"]) (D_is_pile : DefAt K mg "is_pile" s_is_pile ["places", "value"]) (D_covered : DefAt K mg "covered" s_covered ["places", "heap"]) (D_is_too_high : DefAt K mg "is_too_high" s_is_too_high ["places", "heap"]) (D_is_heap : DefAt K mg "is_heap" s_is_heap ["places", "value"]) (D_piled : DefAt K mg "piled" s_piled ["piles"]) (D_is_net_way : DefAt K mg "is_net_way" s_is_net_way ["value"]) (D_check_way : DefAt K mg "check_way" s_check_way ["way"]) (D_is_odd : DefAt K mg "is_odd" s_is_odd ["place"]) (D_is_between : DefAt K mg "is_between" s_is_between ["a", "b"]) (D_turned_begin : DefAt K mg "turned_begin" s_turned_begin ["a"]) (D_turned_end : DefAt K mg "turned_end" s_turned_end ["b", "last"]) (D_turned_piles : DefAt K mg "turned_piles" s_turned_piles ["heap", "last"]) (D_piles_between : DefAt K mg "piles_between" s_piles_between ["heap"]) (D_check_tide : DefAt K mg "check_tide" s_check_tide ["days", "heap", "may_be_between"]) (D_turned_over : DefAt K mg "turned_over" s_turned_over ["way", "days", "groups_heap", "rings_heap"]) (D__law_source : DefAt K mg "_law_source" s__law_source ["_law_script", "_law_start"]) (D__law_draw : DefAt K mg "_law_draw" s__law_draw ["_law_source_here", "_law_span"]) (D__law_pick : DefAt K mg "_law_pick" s__law_pick ["_law_source_here", "_law_some"]) (D__law_same : DefAt K mg "_law_same" s__law_same ["_law_told", "_law_due"]) (D__law_is_lone : DefAt K mg "_law_is_lone" s__law_is_lone ["_law_bar"]) (D__law_tide : DefAt K mg "_law_tide" s__law_tide ["_law_heap", "_law_last"]) (D__law_turned_heaps : DefAt K mg "_law_turned_heaps" s__law_turned_heaps ["_law_way", "_law_groups_heap", "_law_rings_heap", "_law_last"]) (D__law_drawn_heap : DefAt K mg "_law_drawn_heap" s__law_drawn_heap ["_law_source_here", "_law_days", "_law_may_be_lone"]) (D__law_caught : DefAt K mg "_law_caught" s__law_caught ["_law_call"]) (D__law_odd_heap : DefAt K mg "_law_odd_heap" s__law_odd_heap ["_law_source_here", "_law_days"]) (D__law_refused_right : DefC K mg "_law_refused_right" s__law_refused_right ["_law_source_here", "_law_days"] ca.k__law_refused_right) (D__law_crowded_right : DefC K mg "_law_crowded_right" s__law_crowded_right ["_law_source_here", "_law_days"] ca.k__law_crowded_right) (a_BadHeap : ErrA K mg "BadHeap" ca.c_BadHeap ca.fI) (a_BadNumber : ErrA K mg "BadNumber" ca.c_BadNumber ca.fI) (a_BadPlaces : ErrA K mg "BadPlaces" ca.c_BadPlaces ca.fI) (a_BadWay : ErrA K mg "BadWay" ca.c_BadWay ca.fI) (I : InitA K s_init ca.fI) (bVE : mg "ValueError" = none) (xm : ExmOk K (exs ca)) (tb__law_refused_right : TabB base mg ca.k__law_refused_right ca.p__law_refused_right) (tb__law_crowded_right : TabB base mg ca.k__law_crowded_right ca.p__law_crowded_right) (uT : ∀ p ∈ tabs ca, ∀ q ∈ tabs ca, p.1 = q.1 → p.2 = q.2) {fl : Addr} {fdl : FuncData} (F : Fun K "law" "law" s_law fl fdl) (hc : CodeAt K "law" s_law fl ca.k_law) : FnG P w K mg base CX0 11 fl fdl ["_law_script"] (spLT K (tabs ca) ok_law) := by
  have e_BadHeap : ErrC P w K mg base "BadHeap" ca.c_BadHeap := errc_of a_BadHeap I fun F vV => init_ok bVE F vV
  have e_BadNumber : ErrC P w K mg base "BadNumber" ca.c_BadNumber := errc_of a_BadNumber I fun F vV => init_ok bVE F vV
  have e_BadPlaces : ErrC P w K mg base "BadPlaces" ca.c_BadPlaces := errc_of a_BadPlaces I fun F vV => init_ok bVE F vV
  have e_BadWay : ErrC P w K mg base "BadWay" ca.c_BadWay := errc_of a_BadWay I fun F vV => init_ok bVE F vV
  have c_is_whole := ok_is_whole_ (P := P) (w := w) (base := base) B D_is_whole
  have c_is_tuple_long := ok_is_tuple_long_ (P := P) (w := w) (base := base) B D_is_tuple_long
  have c_covered := ok_covered_ (P := P) (w := w) (base := base) B D_covered
  have c_piled := ok_piled_ (P := P) (w := w) (base := base) B D_piled
  have c_is_net_way := ok_is_net_way_ (P := P) (w := w) (base := base) B D_is_net_way
  have c_is_odd := ok_is_odd_ (P := P) (w := w) (base := base) B D_is_odd
  have c__law_source := ok__law_source_ (P := P) (w := w) (base := base) B D__law_source
  have c__law_draw := ok__law_draw_ (P := P) (w := w) (base := base) B D__law_draw
  have c__law_same := ok__law_same_ (P := P) (w := w) (base := base) B D__law_same
  have c__law_is_lone := ok__law_is_lone_ (P := P) (w := w) (base := base) B D__law_is_lone
  have c__law_tide := ok__law_tide_ (P := P) (w := w) (base := base) B D__law_tide
  have c_is_from_to := ok_is_from_to_ (P := P) (w := w) (base := base) B D_is_from_to c_is_whole
  have c_is_too_high := ok_is_too_high_ (P := P) (w := w) (base := base) B D_is_too_high c_covered
  have c_is_between := ok_is_between_ (P := P) (w := w) (base := base) B D_is_between c_is_odd
  have c_turned_begin := ok_turned_begin_ (P := P) (w := w) (base := base) B D_turned_begin c_is_odd
  have c_turned_end := ok_turned_end_ (P := P) (w := w) (base := base) B D_turned_end c_is_odd
  have c__law_pick := ok__law_pick_ (P := P) (w := w) (base := base) B D__law_pick c__law_draw
  have c__law_turned_heaps := ok__law_turned_heaps_ (P := P) (w := w) (base := base) B D__law_turned_heaps c__law_tide
  have c__law_drawn_heap := ok__law_drawn_heap_ (P := P) (w := w) (base := base) B D__law_drawn_heap c__law_draw c__law_is_lone
  have c_is_stretch_of := ok_is_stretch_of_ (P := P) (w := w) (base := base) B D_is_stretch_of c_is_from_to c_is_tuple_long
  have c_check_places := ok_check_places_ (P := P) (w := w) (base := base) ca B D_check_places e_BadPlaces c_is_from_to
  have c_check_way := ok_check_way_ (P := P) (w := w) (base := base) ca B D_check_way e_BadWay c_is_net_way
  have c_turned_piles := ok_turned_piles_ (P := P) (w := w) (base := base) B D_turned_piles c_is_between c_turned_begin c_turned_end
  have c_piles_between := ok_piles_between_ (P := P) (w := w) (base := base) B D_piles_between c_is_between
  have c__law_odd_heap := ok__law_odd_heap_ (P := P) (w := w) (base := base) B D__law_odd_heap c__law_pick
  have c_is_pile := ok_is_pile_ (P := P) (w := w) (base := base) B D_is_pile c_is_from_to c_is_tuple_long c_is_stretch_of
  have c_is_heap := ok_is_heap_ (P := P) (w := w) (base := base) ca B D_is_heap c_check_places c_is_pile c_is_too_high
  have c_check_tide := ok_check_tide_ (P := P) (w := w) (base := base) ca B D_check_tide e_BadHeap c_is_heap c_piles_between
  have c_turned_over := ok_turned_over_ (P := P) (w := w) (base := base) ca B D_turned_over e_BadNumber c_is_from_to c_piled c_check_way c_turned_piles c_piles_between c_check_tide
  have c__law_refused_right := ok__law_refused_right_ (P := P) (w := w) (base := base) ca B D__law_refused_right c_turned_over c__law_draw c__law_pick c__law_same c__law_odd_heap D__law_caught a_BadHeap a_BadNumber a_BadWay xm tb__law_refused_right
  have c__law_crowded_right := ok__law_crowded_right_ (P := P) (w := w) (base := base) ca B D__law_crowded_right c_turned_over c__law_draw c__law_same D__law_caught a_BadHeap a_BadNumber a_BadWay xm tb__law_crowded_right
  exact ok_law_ ca B F hc c_turned_over c__law_source c__law_draw c__law_pick c__law_same c__law_turned_heaps c__law_drawn_heap c__law_refused_right c__law_crowded_right uT
theorem fin {h : Heap} {fa : Addr} (X : K.In h) (G : h.Ns mainGlobals mg) {z_c_BadHeap : Addr} {z_c_BadNumber : Addr} {z_c_BadPlaces : Addr} {z_c_BadWay : Addr} {z_fI : Addr} {z_k__law_refused_right : Addr} {z_k__law_crowded_right : Addr} {z_k_law : Addr} {z_p__law_refused_right : Addr} {z_p__law_crowded_right : Addr} (B : Blt K mg) (D_is_whole : DefAt K mg "is_whole" s_is_whole ["value"]) (D_is_from_to : DefAt K mg "is_from_to" s_is_from_to ["value", "low", "high"]) (D_is_tuple_long : DefAt K mg "is_tuple_long" s_is_tuple_long ["value", "many"]) (D_is_stretch_of : DefAt K mg "is_stretch_of" s_is_stretch_of ["places", "value"]) (D_check_places : DefAt K mg "check_places" s_check_places ["places"]) (D_is_pile : DefAt K mg "is_pile" s_is_pile ["places", "value"]) (D_covered : DefAt K mg "covered" s_covered ["places", "heap"]) (D_is_too_high : DefAt K mg "is_too_high" s_is_too_high ["places", "heap"]) (D_is_heap : DefAt K mg "is_heap" s_is_heap ["places", "value"]) (D_piled : DefAt K mg "piled" s_piled ["piles"]) (D_is_net_way : DefAt K mg "is_net_way" s_is_net_way ["value"]) (D_check_way : DefAt K mg "check_way" s_check_way ["way"]) (D_is_odd : DefAt K mg "is_odd" s_is_odd ["place"]) (D_is_between : DefAt K mg "is_between" s_is_between ["a", "b"]) (D_turned_begin : DefAt K mg "turned_begin" s_turned_begin ["a"]) (D_turned_end : DefAt K mg "turned_end" s_turned_end ["b", "last"]) (D_turned_piles : DefAt K mg "turned_piles" s_turned_piles ["heap", "last"]) (D_piles_between : DefAt K mg "piles_between" s_piles_between ["heap"]) (D_check_tide : DefAt K mg "check_tide" s_check_tide ["days", "heap", "may_be_between"]) (D_turned_over : DefAt K mg "turned_over" s_turned_over ["way", "days", "groups_heap", "rings_heap"]) (D__law_source : DefAt K mg "_law_source" s__law_source ["_law_script", "_law_start"]) (D__law_draw : DefAt K mg "_law_draw" s__law_draw ["_law_source_here", "_law_span"]) (D__law_pick : DefAt K mg "_law_pick" s__law_pick ["_law_source_here", "_law_some"]) (D__law_same : DefAt K mg "_law_same" s__law_same ["_law_told", "_law_due"]) (D__law_is_lone : DefAt K mg "_law_is_lone" s__law_is_lone ["_law_bar"]) (D__law_tide : DefAt K mg "_law_tide" s__law_tide ["_law_heap", "_law_last"]) (D__law_turned_heaps : DefAt K mg "_law_turned_heaps" s__law_turned_heaps ["_law_way", "_law_groups_heap", "_law_rings_heap", "_law_last"]) (D__law_drawn_heap : DefAt K mg "_law_drawn_heap" s__law_drawn_heap ["_law_source_here", "_law_days", "_law_may_be_lone"]) (D__law_caught : DefAt K mg "_law_caught" s__law_caught ["_law_call"]) (D__law_odd_heap : DefAt K mg "_law_odd_heap" s__law_odd_heap ["_law_source_here", "_law_days"]) (D__law_refused_right : DefC K mg "_law_refused_right" s__law_refused_right ["_law_source_here", "_law_days"] z_k__law_refused_right) (D__law_crowded_right : DefC K mg "_law_crowded_right" s__law_crowded_right ["_law_source_here", "_law_days"] z_k__law_crowded_right) (a_BadHeap : ErrA K mg "BadHeap" z_c_BadHeap z_fI) (a_BadNumber : ErrA K mg "BadNumber" z_c_BadNumber z_fI) (a_BadPlaces : ErrA K mg "BadPlaces" z_c_BadPlaces z_fI) (a_BadWay : ErrA K mg "BadWay" z_c_BadWay z_fI) (I : InitA K s_init z_fI) (bVE : mg "ValueError" = none) (xm : ExmOk K (exs ⟨z_c_BadHeap, z_c_BadNumber, z_c_BadPlaces, z_c_BadWay, z_fI, z_k__law_refused_right, z_k__law_crowded_right, z_k_law, z_p__law_refused_right, z_p__law_crowded_right⟩)) (m__law_refused_right : MkA K h z_k__law_refused_right z_p__law_refused_right) (m__law_crowded_right : MkA K h z_k__law_crowded_right z_p__law_crowded_right) (uT : ∀ p ∈ tabs ⟨z_c_BadHeap, z_c_BadNumber, z_c_BadPlaces, z_c_BadWay, z_fI, z_k__law_refused_right, z_k__law_crowded_right, z_k_law, z_p__law_refused_right, z_p__law_crowded_right⟩, ∀ q ∈ tabs ⟨z_c_BadHeap, z_c_BadNumber, z_c_BadPlaces, z_c_BadWay, z_fI, z_k__law_refused_right, z_k__law_crowded_right, z_k_law, z_p__law_refused_right, z_p__law_crowded_right⟩, p.1 = q.1 → p.2 = q.2) (L : ∃ fd : FuncData, Fun K "law" "law" s_law fa fd ∧ CodeAt K "law" s_law fa z_k_law ∧ ∀ (s : Shared) (u : Value), BindsTo s fd ⟨[u], []⟩ [("_law_script", u)]) : LawT P w K 11 "_law_script" ok_law mg fa h := by
  obtain ⟨fd, F, hc, hb⟩ := L
  refine lawT_of fd [(z_k__law_refused_right, z_p__law_refused_right), (z_k__law_crowded_right, z_p__law_crowded_right)] (tabs ⟨z_c_BadHeap, z_c_BadNumber, z_c_BadPlaces, z_c_BadWay, z_fI, z_k__law_refused_right, z_k__law_crowded_right, z_k_law, z_p__law_refused_right, z_p__law_crowded_right⟩) (fun p hp => ?_) (fun p hp => ?_) hb fun base _ _ tb => chain ⟨z_c_BadHeap, z_c_BadNumber, z_c_BadPlaces, z_c_BadWay, z_fI, z_k__law_refused_right, z_k__law_crowded_right, z_k_law, z_p__law_refused_right, z_p__law_crowded_right⟩ B D_is_whole D_is_from_to D_is_tuple_long D_is_stretch_of D_check_places D_is_pile D_covered D_is_too_high D_is_heap D_piled D_is_net_way D_check_way D_is_odd D_is_between D_turned_begin D_turned_end D_turned_piles D_piles_between D_check_tide D_turned_over D__law_source D__law_draw D__law_pick D__law_same D__law_is_lone D__law_tide D__law_turned_heaps D__law_drawn_heap D__law_caught D__law_odd_heap D__law_refused_right D__law_crowded_right a_BadHeap a_BadNumber a_BadPlaces a_BadWay I bVE xm (tb (z_k__law_refused_right, z_p__law_refused_right) (by simp)) (tb (z_k__law_crowded_right, z_p__law_crowded_right) (by simp)) uT F hc
  · simp only [List.mem_cons, List.not_mem_nil, or_false] at hp
    rcases hp with rfl | rfl
    · exact m__law_refused_right
    · exact m__law_crowded_right
  · simp only [tabs, List.mem_cons, List.not_mem_nil, or_false] at hp
    rcases hp with rfl | rfl
    · exact ⟨(z_k__law_refused_right, z_p__law_refused_right), by simp, rfl⟩
    · exact ⟨(z_k__law_crowded_right, z_p__law_crowded_right), by simp, rfl⟩
end
end DD

open PySem PySem.W PyProof.Rows
set_option maxRecDepth 100000 in
set_option maxHeartbeats 0 in
theorem PySem.Challenge.cw_staybars_k68_heaps_turned_over_holds : PySem.Challenge.rw_staybars_k68_heaps_turned_over.Holds := by
  w_on; o_law; k_head; (case hw => w_witness2)
  k_fill
  refine DD.walk_gT (l := PySem.Challenge.rw_staybars_k68_heaps_turned_over) (n := 63) (x := "_law_script") (ok := DD.ok_law) (k := 11) rfl (by decide) rfl ⟨rfl, by decide, by decide⟩ (fun w h Y => PySem.W.km_in_of Y) ?F (fun ns hl hb => ⟨hb, hl⟩)
  case F =>
  intro w mg fa h Y KX G hmg
  have hT8 := PySem.W.km_tabs_of Y
  refine' DD.fin KX G ?B ?D_is_whole ?D_is_from_to ?D_is_tuple_long ?D_is_stretch_of ?D_check_places ?D_is_pile ?D_covered ?D_is_too_high ?D_is_heap ?D_piled ?D_is_net_way ?D_check_way ?D_is_odd ?D_is_between ?D_turned_begin ?D_turned_end ?D_turned_piles ?D_piles_between ?D_check_tide ?D_turned_over ?D__law_source ?D__law_draw ?D__law_pick ?D__law_same ?D__law_is_lone ?D__law_tide ?D__law_turned_heaps ?D__law_drawn_heap ?D__law_caught ?D__law_odd_heap ?D__law_refused_right ?D__law_crowded_right ?a_BadHeap ?a_BadNumber ?a_BadPlaces ?a_BadWay ?I ?bVE ?xm ?m__law_refused_right ?m__law_crowded_right ?uT ?L
  case D_is_whole =>
    refine' DD.def_mk KX G ?a ?l ?c ?k (fun _ _ _ _ _ _ us hl => match us, hl with | [_], _ => rfl)
    (case a => k_is); (case l => k_is); (case c => k_is); (case k => k_is)
  case D_is_from_to =>
    refine' DD.def_mk KX G ?a ?l ?c ?k (fun _ _ _ _ _ _ us hl => match us, hl with | [_, _, _], _ => rfl)
    (case a => k_is); (case l => k_is); (case c => k_is); (case k => k_is)
  case D_is_tuple_long =>
    refine' DD.def_mk KX G ?a ?l ?c ?k (fun _ _ _ _ _ _ us hl => match us, hl with | [_, _], _ => rfl)
    (case a => k_is); (case l => k_is); (case c => k_is); (case k => k_is)
  case D_is_stretch_of =>
    refine' DD.def_mk KX G ?a ?l ?c ?k (fun _ _ _ _ _ _ us hl => match us, hl with | [_, _], _ => rfl)
    (case a => k_is); (case l => k_is); (case c => k_is); (case k => k_is)
  case D_check_places =>
    refine' DD.def_mk KX G ?a ?l ?c ?k (fun _ _ _ _ _ _ us hl => match us, hl with | [_], _ => rfl)
    (case a => k_is); (case l => k_is); (case c => k_is); (case k => k_is)
  case D_is_pile =>
    refine' DD.def_mk KX G ?a ?l ?c ?k (fun _ _ _ _ _ _ us hl => match us, hl with | [_, _], _ => rfl)
    (case a => k_is); (case l => k_is); (case c => k_is); (case k => k_is)
  case D_covered =>
    refine' DD.def_mk KX G ?a ?l ?c ?k (fun _ _ _ _ _ _ us hl => match us, hl with | [_, _], _ => rfl)
    (case a => k_is); (case l => k_is); (case c => k_is); (case k => k_is)
  case D_is_too_high =>
    refine' DD.def_mk KX G ?a ?l ?c ?k (fun _ _ _ _ _ _ us hl => match us, hl with | [_, _], _ => rfl)
    (case a => k_is); (case l => k_is); (case c => k_is); (case k => k_is)
  case D_is_heap =>
    refine' DD.def_mk KX G ?a ?l ?c ?k (fun _ _ _ _ _ _ us hl => match us, hl with | [_, _], _ => rfl)
    (case a => k_is); (case l => k_is); (case c => k_is); (case k => k_is)
  case D_piled =>
    refine' DD.def_mk KX G ?a ?l ?c ?k (fun _ _ _ _ _ _ us hl => match us, hl with | [_], _ => rfl)
    (case a => k_is); (case l => k_is); (case c => k_is); (case k => k_is)
  case D_is_net_way =>
    refine' DD.def_mk KX G ?a ?l ?c ?k (fun _ _ _ _ _ _ us hl => match us, hl with | [_], _ => rfl)
    (case a => k_is); (case l => k_is); (case c => k_is); (case k => k_is)
  case D_check_way =>
    refine' DD.def_mk KX G ?a ?l ?c ?k (fun _ _ _ _ _ _ us hl => match us, hl with | [_], _ => rfl)
    (case a => k_is); (case l => k_is); (case c => k_is); (case k => k_is)
  case D_is_odd =>
    refine' DD.def_mk KX G ?a ?l ?c ?k (fun _ _ _ _ _ _ us hl => match us, hl with | [_], _ => rfl)
    (case a => k_is); (case l => k_is); (case c => k_is); (case k => k_is)
  case D_is_between =>
    refine' DD.def_mk KX G ?a ?l ?c ?k (fun _ _ _ _ _ _ us hl => match us, hl with | [_, _], _ => rfl)
    (case a => k_is); (case l => k_is); (case c => k_is); (case k => k_is)
  case D_turned_begin =>
    refine' DD.def_mk KX G ?a ?l ?c ?k (fun _ _ _ _ _ _ us hl => match us, hl with | [_], _ => rfl)
    (case a => k_is); (case l => k_is); (case c => k_is); (case k => k_is)
  case D_turned_end =>
    refine' DD.def_mk KX G ?a ?l ?c ?k (fun _ _ _ _ _ _ us hl => match us, hl with | [_, _], _ => rfl)
    (case a => k_is); (case l => k_is); (case c => k_is); (case k => k_is)
  case D_turned_piles =>
    refine' DD.def_mk KX G ?a ?l ?c ?k (fun _ _ _ _ _ _ us hl => match us, hl with | [_, _], _ => rfl)
    (case a => k_is); (case l => k_is); (case c => k_is); (case k => k_is)
  case D_piles_between =>
    refine' DD.def_mk KX G ?a ?l ?c ?k (fun _ _ _ _ _ _ us hl => match us, hl with | [_], _ => rfl)
    (case a => k_is); (case l => k_is); (case c => k_is); (case k => k_is)
  case D_check_tide =>
    refine' DD.def_mk KX G ?a ?l ?c ?k (fun _ _ _ _ _ _ us hl => match us, hl with | [_, _, _], _ => rfl)
    (case a => k_is); (case l => k_is); (case c => k_is); (case k => k_is)
  case D_turned_over =>
    refine' DD.def_mk KX G ?a ?l ?c ?k (fun _ _ _ _ _ _ us hl => match us, hl with | [_, _, _, _], _ => rfl)
    (case a => k_is); (case l => k_is); (case c => k_is); (case k => k_is)
  case D__law_source =>
    refine' DD.def_mk KX G ?a ?l ?c ?k (fun _ _ _ _ _ _ us hl => match us, hl with | [_, _], _ => rfl)
    (case a => k_is); (case l => k_is); (case c => k_is); (case k => k_is)
  case D__law_draw =>
    refine' DD.def_mk KX G ?a ?l ?c ?k (fun _ _ _ _ _ _ us hl => match us, hl with | [_, _], _ => rfl)
    (case a => k_is); (case l => k_is); (case c => k_is); (case k => k_is)
  case D__law_pick =>
    refine' DD.def_mk KX G ?a ?l ?c ?k (fun _ _ _ _ _ _ us hl => match us, hl with | [_, _], _ => rfl)
    (case a => k_is); (case l => k_is); (case c => k_is); (case k => k_is)
  case D__law_same =>
    refine' DD.def_mk KX G ?a ?l ?c ?k (fun _ _ _ _ _ _ us hl => match us, hl with | [_, _], _ => rfl)
    (case a => k_is); (case l => k_is); (case c => k_is); (case k => k_is)
  case D__law_is_lone =>
    refine' DD.def_mk KX G ?a ?l ?c ?k (fun _ _ _ _ _ _ us hl => match us, hl with | [_], _ => rfl)
    (case a => k_is); (case l => k_is); (case c => k_is); (case k => k_is)
  case D__law_tide =>
    refine' DD.def_mk KX G ?a ?l ?c ?k (fun _ _ _ _ _ _ us hl => match us, hl with | [_, _], _ => rfl)
    (case a => k_is); (case l => k_is); (case c => k_is); (case k => k_is)
  case D__law_turned_heaps =>
    refine' DD.def_mk KX G ?a ?l ?c ?k (fun _ _ _ _ _ _ us hl => match us, hl with | [_, _, _, _], _ => rfl)
    (case a => k_is); (case l => k_is); (case c => k_is); (case k => k_is)
  case D__law_drawn_heap =>
    refine' DD.def_mk KX G ?a ?l ?c ?k (fun _ _ _ _ _ _ us hl => match us, hl with | [_, _, _], _ => rfl)
    (case a => k_is); (case l => k_is); (case c => k_is); (case k => k_is)
  case D__law_caught =>
    refine' DD.def_mk KX G ?a ?l ?c ?k (fun _ _ _ _ _ _ us hl => match us, hl with | [_], _ => rfl)
    (case a => k_is); (case l => k_is); (case c => k_is); (case k => k_is)
  case D__law_odd_heap =>
    refine' DD.def_mk KX G ?a ?l ?c ?k (fun _ _ _ _ _ _ us hl => match us, hl with | [_, _], _ => rfl)
    (case a => k_is); (case l => k_is); (case c => k_is); (case k => k_is)
  case D__law_refused_right =>
    refine' DD.defc_mk KX G ?a ?l ?c ?k (fun _ _ _ _ _ _ us hl => match us, hl with | [_, _], _ => rfl)
    (case a => k_is); (case l => k_is); (case c => k_is); (case k => k_is)
  case D__law_crowded_right =>
    refine' DD.defc_mk KX G ?a ?l ?c ?k (fun _ _ _ _ _ _ us hl => match us, hl with | [_, _], _ => rfl)
    (case a => k_is); (case l => k_is); (case c => k_is); (case k => k_is)
  case L =>
    refine' DD.lawc_mk KX G hmg ?a ?l ?c ?k (fun _ _ _ _ _ _ _ _ => .of_eq rfl)
    (case a => k_is); (case l => k_is); (case c => k_is); (case k => k_is)
  case a_BadHeap =>
    refine' DD.erra_mk KX G ?a ?l ?hb ?sa ?ex ?ty ?kp ?ga ?gg ?hd ?nv ?iC
    (case a => k_is); (case l => k_is); (case hb => decide +kernel); (case sa => k_is); (case ex => k_is); (case ty => k_is); (case kp => k_is); (case ga => k_is); (case gg => k_is); (case hd => k_is); (case nv => k_is); (case iC => k_is)
  case a_BadNumber =>
    refine' DD.erra_mk KX G ?a ?l ?hb ?sa ?ex ?ty ?kp ?ga ?gg ?hd ?nv ?iC
    (case a => k_is); (case l => k_is); (case hb => decide +kernel); (case sa => k_is); (case ex => k_is); (case ty => k_is); (case kp => k_is); (case ga => k_is); (case gg => k_is); (case hd => k_is); (case nv => k_is); (case iC => k_is)
  case a_BadPlaces =>
    refine' DD.erra_mk KX G ?a ?l ?hb ?sa ?ex ?ty ?kp ?ga ?gg ?hd ?nv ?iC
    (case a => k_is); (case l => k_is); (case hb => decide +kernel); (case sa => k_is); (case ex => k_is); (case ty => k_is); (case kp => k_is); (case ga => k_is); (case gg => k_is); (case hd => k_is); (case nv => k_is); (case iC => k_is)
  case a_BadWay =>
    refine' DD.erra_mk KX G ?a ?l ?hb ?sa ?ex ?ty ?kp ?ga ?gg ?hd ?nv ?iC
    (case a => k_is); (case l => k_is); (case hb => decide +kernel); (case sa => k_is); (case ex => k_is); (case ty => k_is); (case kp => k_is); (case ga => k_is); (case gg => k_is); (case hd => k_is); (case nv => k_is); (case iC => k_is)
  case I =>
    refine' DD.inita_mk ?l ?c ?k ?t ?v (fun _ _ _ _ _ _ us hl => match us, hl with | [_, _], _ => rfl)
    (case l => k_is); (case c => k_is); (case k => k_is); (case t => k_is); (case v => k_is)
  case bVE => (refine' DD.glob_none KX G ?z; (case z => k_is))
  case m__law_refused_right =>
    refine' DD.mka_mk KX ?ml ?mv ?me ?mn ?mr
    (case ml => k_is); (case mv => rfl); (case me => kernel_rfl); (case mn => first | kernel_rfl | rfl); (case mr => exact hT8 _ (by k_mem))
  case m__law_crowded_right =>
    refine' DD.mka_mk KX ?ml ?mv ?me ?mn ?mr
    (case ml => k_is); (case mv => rfl); (case me => kernel_rfl); (case mn => first | kernel_rfl | rfl); (case mr => exact hT8 _ (by k_mem))
  case xm =>
    refine' ⟨?x_0_0, List.forall_mem_cons.mpr ⟨?x_0_1, List.forall_mem_cons.mpr ⟨?x_0_2, (fun _ h => nomatch h)⟩⟩, ⟨?x_1_1, List.forall_mem_cons.mpr ⟨?x_1_2, (fun _ h => nomatch h)⟩, ⟨?x_2_2, (fun _ h => nomatch h), trivial⟩⟩⟩
    (case x_0_0 => kts_exm)
    (case x_0_1 => kts_exm)
    (case x_0_2 => kts_exm)
    (case x_1_1 => kts_exm)
    (case x_1_2 => kts_exm)
    (case x_2_2 => kts_exm)
  case uT => decide
  case B =>
    refine' ⟨DD.glob_none KX G ?b_all, DD.glob_none KX G ?b_any, DD.glob_none KX G ?b_bool, DD.glob_none KX G ?b_int, DD.glob_none KX G ?b_isinstance, DD.glob_none KX G ?b_len, DD.glob_none KX G ?b_max, DD.glob_none KX G ?b_min, DD.glob_none KX G ?b_range, DD.glob_none KX G ?b_repr, DD.glob_none KX G ?b_sorted, DD.glob_none KX G ?b_str, DD.glob_none KX G ?b_sum, DD.glob_none KX G ?b_tuple, DD.glob_int KX G ?c_GREATEST_LAST, DD.glob_int KX G ?c_GREATEST_WIDTH, DD.glob_int KX G ?c_MOST_PLACES, DD.glob_str KX G ?s_MEETS, DD.glob_str KX G ?s_UNIONS⟩
    (case b_all => k_is)
    (case b_any => k_is)
    (case b_bool => k_is)
    (case b_int => k_is)
    (case b_isinstance => k_is)
    (case b_len => k_is)
    (case b_max => k_is)
    (case b_min => k_is)
    (case b_range => k_is)
    (case b_repr => k_is)
    (case b_sorted => k_is)
    (case b_str => k_is)
    (case b_sum => k_is)
    (case b_tuple => k_is)
    (case c_GREATEST_LAST => k_is)
    (case c_GREATEST_WIDTH => k_is)
    (case c_MOST_PLACES => k_is)
    (case s_MEETS => k_is)
    (case s_UNIONS => k_is)

