import PyProof.Rows.All
import Wide.All
import OpenK.AllK
import Wide.FinOn
import HandS.ForMost
import HandS.IsInst
import HandS.TupAny
import HandS.TupMul
import HandS.Style
import PyProof.ReprRoads
import PyProof.ReprLen
import HandS.EndBits
import PySem.Challenge.RW_staybars_k01_nets_judged
set_option Elab.async false
set_option linter.all false
set_option maxRecDepth 100000
set_option maxHeartbeats 4000000
/-! Data without addresses: what a value of the machine says (Dw), while some lists (W) belong to somebody. -/
namespace DD
open PySem L2
abbrev Fg := PySem.W.Frag
def keyD : Key → PyData
  | .inl i => .int i
  | .inr x => .str x
/-- a tuple of the written part -/
def KTup (K : Fg) (a : Addr) (xs : List V) : Prop :=
  ∃ (o : Obj) (its : Array Value) (n : Nat), K.lookup a = some o ∧ o.cls = .type "tuple" ∧ o.data = .seq its n ∧ its.size ≤ sizeLine ∧ Vals xs its.toList
mutual
inductive Dw (K : Fg) (H : Hp) (W : List Addr) : V → PyData → Prop
  | non : Dw K H W .non .none
  | bl (b : Bool) : Dw K H W (.bl b) (.bool b)
  | int (i : Int) : Dw K H W (.int i) (.int i)
  | str (x : Str) : Dw K H W (.str x) (.str x)
  | lst {a : Addr} {xs : List V} {ds : List PyData} : a ∉ W → H a = some (.lst xs) → DwA K H W xs ds → Dw K H W (.ref a) (.list ds)
  | tup {a : Addr} {xs : List V} {ds : List PyData} : a ∉ W → H a = some (.tup xs) → DwA K H W xs ds → Dw K H W (.ref a) (.tuple ds)
  | ktup {a : Addr} {xs : List V} {ds : List PyData} : KTup K a xs → DwA K H W xs ds → Dw K H W (.ref a) (.tuple ds)
  | dct {a : Addr} {kvs : List (Key × V)} {ds : List (PyData × PyData)} : a ∉ W → H a = some (.dK kvs) → ds.map (·.1) = kvs.map (fun p => keyD p.1) → DwA K H W (kvs.map (·.2)) (ds.map (·.2)) →
      Dw K H W (.ref a) (.dict ds)
inductive DwA (K : Fg) (H : Hp) (W : List Addr) : List V → List PyData → Prop
  | nil : DwA K H W [] []
  | cons {v : V} {vs : List V} {d : PyData} {ds : List PyData} : Dw K H W v d → DwA K H W vs ds → DwA K H W (v :: vs) (d :: ds)
end
/-- what belongs to nobody is as it was -/
def Ext (W : List Addr) (H H' : Hp) : Prop := ∀ b o, b ∉ W → H b = some o → H' b = some o
theorem Ext.refl (W : List Addr) (H : Hp) : Ext W H H := fun _ _ _ h => h
theorem Ext.trans {W : List Addr} {H H1 H2 : Hp} (a : Ext W H H1) (b : Ext W H1 H2) : Ext W H H2 := fun c o n h => b c o n (a c o n h)
theorem Ext.sub {W W' : List Addr} {H H' : Hp} (a : Ext W' H H') (s : ∀ x ∈ W', x ∈ W) : Ext W H H' := fun c o n h => a c o (fun z => n (s c z)) h
theorem Ext.same {W : List Addr} {H H' : Hp} (a : Same H H') : Ext W H H' := fun c o _ h => a c o h
section
variable {K : Fg} {H H' : Hp} {W W' : List Addr}
mutual
theorem Dw.to (e : Ext W H H') (s : ∀ a ∈ W', a ∈ W) : ∀ {v : V} {d : PyData}, Dw K H W v d → Dw K H' W' v d
  | _, _, .non => .non
  | _, _, .bl b => .bl b
  | _, _, .int i => .int i
  | _, _, .str x => .str x
  | _, _, .lst n r q => .lst (fun z => n (s _ z)) (e _ _ n r) (DwA.to e s q)
  | _, _, .tup n r q => .tup (fun z => n (s _ z)) (e _ _ n r) (DwA.to e s q)
  | _, _, .ktup k q => .ktup k (DwA.to e s q)
  | _, _, .dct n r k q => .dct (fun z => n (s _ z)) (e _ _ n r) k (DwA.to e s q)
theorem DwA.to (e : Ext W H H') (s : ∀ a ∈ W', a ∈ W) : ∀ {vs : List V} {ds : List PyData}, DwA K H W vs ds → DwA K H' W' vs ds
  | _, _, .nil => .nil
  | _, _, .cons a b => .cons (Dw.to e s a) (DwA.to e s b)
end
mutual
/-- a new object that somebody owns -/
theorem Dw.new {p : Addr} {o : HO} (h : H p = none) : ∀ {v : V} {d : PyData}, Dw K H W v d → Dw K (upd H p o) (p :: W) v d
  | _, _, .non => .non
  | _, _, .bl b => .bl b
  | _, _, .int i => .int i
  | _, _, .str x => .str x
  | _, _, .lst n r q => .lst (by simp only [List.mem_cons, not_or]; exact ⟨ne_of_none r h, n⟩) (by rw [upd_ne (ne_of_none r h)]; exact r) (DwA.new h q)
  | _, _, .tup n r q => .tup (by simp only [List.mem_cons, not_or]; exact ⟨ne_of_none r h, n⟩) (by rw [upd_ne (ne_of_none r h)]; exact r) (DwA.new h q)
  | _, _, .ktup k q => .ktup k (DwA.new h q)
  | _, _, .dct n r k q => .dct (by simp only [List.mem_cons, not_or]; exact ⟨ne_of_none r h, n⟩) (by rw [upd_ne (ne_of_none r h)]; exact r) k (DwA.new h q)
theorem DwA.new {p : Addr} {o : HO} (h : H p = none) : ∀ {vs : List V} {ds : List PyData}, DwA K H W vs ds → DwA K (upd H p o) (p :: W) vs ds
  | _, _, .nil => .nil
  | _, _, .cons a b => .cons (Dw.new h a) (DwA.new h b)
end
theorem DwA.length : ∀ {vs : List V} {ds : List PyData}, DwA K H W vs ds → vs.length = ds.length
  | _, _, .nil => rfl
  | _, _, .cons _ b => by simp [DwA.length b]
theorem DwA.append : ∀ {vs ws : List V} {ds es : List PyData}, DwA K H W vs ds → DwA K H W ws es → DwA K H W (vs ++ ws) (ds ++ es)
  | _, _, _, _, .nil, q => q
  | _, _, _, _, .cons a b, q => .cons a (DwA.append b q)
theorem DwA.get : ∀ {vs : List V} {ds : List PyData} {i : Nat} {d : PyData}, DwA K H W vs ds → ds[i]? = some d → ∃ v, vs[i]? = some v ∧ Dw K H W v d
  | _, _, _, _, .nil, h => by simp at h
  | _, _, 0, _, .cons a _, h => by simp at h; subst h; exact ⟨_, rfl, a⟩
  | _, _, i + 1, d, .cons _ b, h => by
    obtain ⟨v, h1, h2⟩ := DwA.get (i := i) (d := d) b (by simpa using h)
    exact ⟨v, by simpa using h1, h2⟩
theorem DwA.get' {vs : List V} {ds : List PyData} {i : Nat} {v : V} (q : DwA K H W vs ds) (h : vs[i]? = some v) : ∃ d, ds[i]? = some d ∧ Dw K H W v d := by
  have hi : i < ds.length := by rw [← q.length]; exact (List.getElem?_eq_some_iff.mp h).1
  obtain ⟨u, h1, h2⟩ := q.get (List.getElem?_eq_getElem hi)
  rw [h] at h1
  cases h1
  exact ⟨_, List.getElem?_eq_getElem hi, h2⟩
theorem DwA.take : ∀ {vs : List V} {ds : List PyData} (n : Nat), DwA K H W vs ds → DwA K H W (vs.take n) (ds.take n)
  | _, _, 0, _ => .nil
  | _, _, _ + 1, .nil => .nil
  | _, _, n + 1, .cons a b => .cons a (DwA.take n b)
theorem DwA.drop : ∀ {vs : List V} {ds : List PyData} (n : Nat), DwA K H W vs ds → DwA K H W (vs.drop n) (ds.drop n)
  | _, _, 0, q => q
  | _, _, _ + 1, .nil => .nil
  | _, _, n + 1, .cons _ b => DwA.drop n b
theorem DwA.erase : ∀ {vs : List V} {ds : List PyData} (i : Nat), DwA K H W vs ds → DwA K H W (vs.eraseIdx i) (ds.eraseIdx i)
  | _, _, _, .nil => .nil
  | _, _, 0, .cons _ b => b
  | _, _, i + 1, .cons a b => .cons a (DwA.erase i b)
theorem DwA.set : ∀ {vs : List V} {ds : List PyData} (i : Nat) {v : V} {d : PyData}, DwA K H W vs ds → Dw K H W v d → DwA K H W (vs.set i v) (ds.set i d)
  | _, _, _, _, _, .nil, _ => .nil
  | _, _, 0, _, _, .cons _ b, q => .cons q b
  | _, _, i + 1, _, _, .cons a b, q => .cons a (DwA.set i b q)
theorem DwA.rep {vs : List V} {ds : List PyData} (q : DwA K H W vs ds) : ∀ n : Nat, DwA K H W (List.replicate n vs).flatten (List.replicate n ds).flatten
  | 0 => .nil
  | n + 1 => by
    rw [List.replicate_succ, List.replicate_succ, List.flatten_cons, List.flatten_cons]
    exact q.append (DwA.rep q n)
theorem Dw.sqT {a : Addr} {ds : List PyData} (h : Dw K H W (.ref a) (.tuple ds)) : ∃ xs, SqT K H a xs ∧ DwA K H W xs ds := by
  cases h with
  | tup n r q => exact ⟨_, SqT.of r, q⟩
  | ktup k q =>
    obtain ⟨o, its, n, h1, h2, h3, h4, h5⟩ := k
    exact ⟨_, .inr ⟨o, its, n, h1, h2, h3, h4, h5⟩, q⟩
theorem Dw.sqL {a : Addr} {ds : List PyData} (h : Dw K H W (.ref a) (.list ds)) : ∃ xs, SqL K H a xs ∧ DwA K H W xs ds := by
  cases h with
  | lst n r q => exact ⟨_, SqL.of r, q⟩
theorem Dw.tupV {v : V} {ds : List PyData} (h : Dw K H W v (.tuple ds)) : ∃ a, v = .ref a := by cases h <;> exact ⟨_, rfl⟩
theorem Dw.lstV {v : V} {ds : List PyData} (h : Dw K H W v (.list ds)) : ∃ a, v = .ref a := by cases h <;> exact ⟨_, rfl⟩
theorem Dw.newTup {p : Addr} {xs : List V} {ds : List PyData} (h : H p = none) (hp : p ∉ W) (q : DwA K H W xs ds) : Dw K (upd H p (.tup xs)) W (.ref p) (.tuple ds) :=
  .tup hp upd_same (q.to (fun b o _ e => by rw [upd_ne (ne_of_none e h)]; exact e) fun _ z => z)
theorem Dw.newLst {p : Addr} {xs : List V} {ds : List PyData} (h : H p = none) (hp : p ∉ W) (q : DwA K H W xs ds) : Dw K (upd H p (.lst xs)) W (.ref p) (.list ds) :=
  .lst hp upd_same (q.to (fun b o _ e => by rw [upd_ne (ne_of_none e h)]; exact e) fun _ z => z)
end
/-! ### what the machine reads of such a value -/
section
variable {X : Cx} {pins : List (Addr × Obj)} {σ : St} {H : Hp} {s : Shared} {W : List Addr}
mutual
theorem Dw.reads (I : Inv X pins σ H s) : ∀ (d : PyData) (v : V) (u : Value), d.hasDict = false → Dw X.K H W v d → RelV v u → ∃ as, Reads s.heap u d as
  | .none, _, _, _, h, r => by cases h; cases r; exact ⟨_, Reads.none⟩
  | .bool b, _, _, _, h, r => by cases h; cases r; exact ⟨_, Reads.bool b⟩
  | .int i, _, _, _, h, r => by cases h; obtain ⟨t, rfl⟩ := r; exact ⟨_, Reads.int i t⟩
  | .str x, _, _, _, h, r => by cases h; obtain ⟨t, rfl⟩ := r; exact ⟨_, Reads.str x t⟩
  | .list ds, v, _, hd, h, r => by
    obtain ⟨a, rfl⟩ := h.lstV
    obtain ⟨xs, hs, q⟩ := h.sqL
    cases r
    obtain ⟨its, rv, ⟨o, n, e, hc, _, hdat⟩, _⟩ := I.list hs
    obtain ⟨as, hr⟩ := DwA.reads I ds xs its (by simpa only [PyData.hasDict] using hd) q rv
    exact ⟨_, Reads.list e hc hdat (by simpa using hr)⟩
  | .tuple ds, v, _, hd, h, r => by
    obtain ⟨a, rfl⟩ := h.tupV
    obtain ⟨xs, hs, q⟩ := h.sqT
    cases r
    obtain ⟨its, rv, ⟨o, e, hc, n, hdat⟩, _⟩ := I.tuple hs
    obtain ⟨as, hr⟩ := DwA.reads I ds xs its (by simpa only [PyData.hasDict] using hd) q rv
    exact ⟨_, Reads.tuple e hc hdat (by simpa using hr)⟩
  | .dict kvs, _, _, hd, _, _ => by simp only [PyData.hasDict] at hd; cases hd
theorem DwA.reads (I : Inv X pins σ H s) : ∀ (ds : List PyData) (vs : List V) (us : List Value), PyData.hasDictAll ds = false → DwA X.K H W vs ds → Vals vs us → ∃ as, ReadsAll s.heap us ds as
  | [], _, _, _, h, r => by cases h; cases r; exact ⟨_, ReadsAll.nil⟩
  | d :: ds, _, _, hd, h, r => by
    rw [PyData.hasDictAll, Bool.or_eq_false_iff] at hd
    cases h with
    | cons h1 h2 =>
      cases r with
      | cons r1 r2 =>
        obtain ⟨as, q1⟩ := Dw.reads I d _ _ hd.1 h1 r1
        obtain ⟨bs, q2⟩ := DwA.reads I ds _ _ hd.2 h2 r2
        exact ⟨_, ReadsAll.cons q1 q2⟩
end
end
end DD

/-! States by slots, the judgements over data. -/
namespace DD
open PySem L2
/-- what a slot holds: data; a list of the def's own (nobody else has it); the source of draws -/
inductive D where
  | dat (d : PyData) | own (ds : List PyData) | src | scr (ns : List Int)
abbrev Env' := List (Option D)
/-- the source of draws: two ints, none below nought -/
def SrcAt (H : Hp) (a : Addr) : Prop := ∃ x y : Int, H a = some (.lst [.int x, .int y]) ∧ 0 ≤ x ∧ 0 ≤ y ∧ y < 2147483648
theorem SrcAt.stay {H H' : Hp} {a : Addr} (h : SrcAt H a) (e : ∀ o, H a = some o → H' a = some o) : SrcAt H' a := by
  obtain ⟨x, y, q, h1⟩ := h
  exact ⟨x, y, e _ q, h1⟩
/-- the script: a list of ints that nobody changes -/
def ScrAt (K : Fg) (H : Hp) (W : List Addr) (a : Addr) (xs : List V) : Prop :=
  (a ∉ W ∧ ∃ o, H a = some (.frz o (.lst xs))) ∨
    ∃ (o : Obj) (its : Array Value) (n : Nat), K.lookup a = some o ∧ o.cls = .type "list" ∧ o.dict = none ∧ o.data = .seq its n ∧ its.size ≤ sizeLine ∧ Vals xs its.toList
theorem ScrAt.sq {K : Fg} {H : Hp} {W : List Addr} {a : Addr} {xs : List V} (h : ScrAt K H W a xs) : SqL K H a xs := by
  rcases h with ⟨_, o, h⟩ | h
  · exact .inl (.inr ⟨o, h⟩)
  · exact .inr h
theorem ScrAt.go {K : Fg} {H H' : Hp} {W W' : List Addr} {a : Addr} {xs : List V} (h : ScrAt K H W a xs) (f : ∀ o, a ∉ W → H a = some o → H' a = some o ∧ a ∉ W') : ScrAt K H' W' a xs := by
  rcases h with ⟨n, o, h⟩ | h
  · exact .inl ⟨(f _ n h).2, o, (f _ n h).1⟩
  · exact .inr h
def SlotV (K : Fg) (H0 : Hp) (s : Option Addr) (W : List Addr) (H : Hp) (v : V) : D → Prop
  | .dat d => Dw K H W v d
  | .own ds => ∃ a xs, v = .ref a ∧ a ∈ W ∧ H0 a = none ∧ H a = some (.lst xs) ∧ DwA K H W xs ds
  | .src => ∃ a, v = .ref a ∧ s = some a
  | .scr ns => ∃ a, v = .ref a ∧ ScrAt K H W a (ns.map V.int)
/-- the state of a def's body: H0, W0 at its entry, s the source -/
structure SOk (K : Fg) (H0 : Hp) (W0 : List Addr) (s : Option Addr) (W : List Addr) (σ : St) (ρ : Env') (H : Hp) : Prop where
  sub : ∀ a ∈ W0, a ∈ W
  tr0 : ∀ a ∈ W0, ∃ o, H0 a = some o
  new : ∀ a ∈ W, a ∈ W0 ∨ H0 a = none
  tr : ∀ a ∈ W, ∃ o, H a = some o
  frame : ∀ b o, H0 b = some o → some b ≠ s → H b = some o
  src : ∀ a, s = some a → a ∈ W0 ∧ (∃ o, H0 a = some o) ∧ SrcAt H a
  slot : ∀ (i : Nat) (d : D), ρ[i]? = some (some d) → ∃ v, σ[i]? = some (some v) ∧ SlotV K H0 s W H v d
  uniq : ∀ (i j : Nat) (v : V) (ds es : List PyData), ρ[i]? = some (some (.own ds)) → ρ[j]? = some (some (.own es)) → σ[i]? = some (some v) → σ[j]? = some (some v) → i = j
  len : σ.length = ρ.length
section
variable {K : Fg} {H0 H H' : Hp} {W0 W W' : List Addr} {s : Option Addr} {σ : St} {ρ : Env'}
theorem SOk.fresh (S : SOk K H0 W0 s W σ ρ H) {p : Addr} (h : H p = none) : p ∉ W := fun z => by
  obtain ⟨o, e⟩ := S.tr p z
  rw [h] at e
  cases e
theorem SOk.fresh0 (S : SOk K H0 W0 s W σ ρ H) {p : Addr} (h : H p = none) : H0 p = none := by
  cases e : H0 p with
  | none => rfl
  | some o =>
    by_cases z : some p = s
    · obtain ⟨_, _, x, y, q, _⟩ := S.src p z.symm
      rw [h] at q
      cases q
    · rw [S.frame p o e z] at h
      cases h
/-- the heap changes by what belongs to nobody (it grows), or by the source's numbers -/
theorem SOk.grow (S : SOk K H0 W0 s W σ ρ H) (e : ∀ b o, some b ≠ s → H b = some o → H' b = some o) (hs : ∀ a, s = some a → SrcAt H' a) : SOk K H0 W0 s W σ ρ H' := by
  have ex : Ext W H H' := fun b o n h => e b o (fun z => n (S.sub _ (S.src b z.symm).1)) h
  refine ⟨S.sub, S.tr0, S.new, fun a ha => ?_, fun b o h n => e b o n (S.frame b o h n), fun a ha => ⟨(S.src a ha).1, (S.src a ha).2.1, hs a ha⟩, fun i d hd => ?_, S.uniq, S.len⟩
  · obtain ⟨o, h⟩ := S.tr a ha
    by_cases z : some a = s
    · obtain ⟨x, y, q, _⟩ := hs a z.symm
      exact ⟨_, q⟩
    · exact ⟨o, e a o z h⟩
  · obtain ⟨v, h1, h2⟩ := S.slot i d hd
    refine ⟨v, h1, ?_⟩
    cases d with
    | dat d => exact h2.to ex fun _ z => z
    | own ds =>
      obtain ⟨a, xs, rfl, q1, q2, q3, q4⟩ := h2
      refine ⟨a, xs, rfl, q1, q2, e a _ (fun z => ?_) q3, q4.to ex fun _ z => z⟩
      obtain ⟨_, ⟨o, w⟩, _⟩ := S.src a z.symm
      rw [q2] at w
      cases w
    | src => exact h2
    | scr ns =>
      obtain ⟨a, rfl, q⟩ := h2
      exact ⟨a, rfl, q.go fun o n h => ⟨ex a o n h, n⟩⟩
theorem SOk.same (S : SOk K H0 W0 s W σ ρ H) (e : Same H H') : SOk K H0 W0 s W σ ρ H' :=
  S.grow (fun b o _ h => e b o h) fun a ha => (S.src a ha).2.2.stay fun o h => e a o h
theorem SOk.alloc (S : SOk K H0 W0 s W σ ρ H) {p : Addr} {o : HO} (h : H p = none) : SOk K H0 W0 s W σ ρ (upd H p o) :=
  S.same fun b u e => by rw [upd_ne (ne_of_none e h)]; exact e
/-- a slot takes data -/
theorem SOk.set (S : SOk K H0 W0 s W σ ρ H) {i : Nat} {v : V} {d : PyData} (h : Dw K H W v d) : SOk K H0 W0 s W (σ.set i (some v)) (ρ.set i (some (.dat d))) H := by
  refine ⟨S.sub, S.tr0, S.new, S.tr, S.frame, S.src, fun j e hj => ?_, fun j k u ds es h1 h2 h3 h4 => ?_, by simp [S.len]⟩
  · by_cases z : i = j
    · subst z
      have hi : i < ρ.length := by
        have := (List.getElem?_eq_some_iff.mp hj).1
        simpa using this
      rw [List.getElem?_set_self hi] at hj
      cases hj
      exact ⟨v, by rw [List.getElem?_set_self (by rw [S.len]; exact hi)], h⟩
    · rw [List.getElem?_set_ne z] at hj
      rw [List.getElem?_set_ne z]
      exact S.slot j e hj
  · have a1 : i ≠ j := by
      rintro rfl
      have hi : i < ρ.length := by simpa using (List.getElem?_eq_some_iff.mp h1).1
      rw [List.getElem?_set_self hi] at h1
      cases h1
    have a2 : i ≠ k := by
      rintro rfl
      have hi : i < ρ.length := by simpa using (List.getElem?_eq_some_iff.mp h2).1
      rw [List.getElem?_set_self hi] at h2
      cases h2
    rw [List.getElem?_set_ne a1] at h1 h3
    rw [List.getElem?_set_ne a2] at h2 h4
    exact S.uniq j k u ds es h1 h2 h3 h4
/-- slots forgotten -/
theorem SOk.weak (S : SOk K H0 W0 s W σ ρ H) {σ' : St} {ρ' : Env'} (hl : σ'.length = ρ'.length) (h : ∀ (i : Nat) (d : D), ρ'[i]? = some (some d) → ρ[i]? = some (some d) ∧ ∀ v, σ[i]? = some v → σ'[i]? = some v)  : SOk K H0 W0 s W σ' ρ' H := by
  refine ⟨S.sub, S.tr0, S.new, S.tr, S.frame, S.src, fun i d hd => ?_, fun i j v ds es h1 h2 h3 h4 => ?_, hl⟩
  · obtain ⟨q1, q2⟩ := h i d hd
    obtain ⟨v, e1, e2⟩ := S.slot i d q1
    exact ⟨v, q2 _ e1, e2⟩
  · obtain ⟨a1, a2⟩ := h i _ h1
    obtain ⟨b1, b2⟩ := h j _ h2
    obtain ⟨u, u1, _⟩ := S.slot i _ a1
    obtain ⟨w, w1, _⟩ := S.slot j _ b1
    have e1 := a2 _ u1
    have e2 := b2 _ w1
    rw [e1] at h3
    rw [e2] at h4
    cases h3
    cases h4
    exact S.uniq i j v ds es a1 b1 u1 w1
/-- an own list is handed over: nobody owns it any more -/
theorem SOk.freeze (S : SOk K H0 W0 s W σ ρ H) {i : Nat} {ds : List PyData} (hi : ρ[i]? = some (some (.own ds))) :
    ∃ a W', σ[i]? = some (some (.ref a)) ∧ (∀ x ∈ W', x ∈ W) ∧ SOk K H0 W0 s W' σ (ρ.set i (some (.dat (.list ds)))) H ∧ Dw K H W' (.ref a) (.list ds) := by
  obtain ⟨v, h1, a, xs, rfl, q1, q2, q3, q4⟩ := S.slot i _ hi
  have hil : i < ρ.length := (List.getElem?_eq_some_iff.mp hi).1
  have sub' : ∀ x ∈ W.filter (fun b => decide (b ≠ a)), x ∈ W := fun x hx => (List.mem_filter.mp hx).1
  have ndw : a ∉ W.filter (fun b => decide (b ≠ a)) := fun z => by
    have := (List.mem_filter.mp z).2
    simp at this
  have Q : Dw K H (W.filter fun b => decide (b ≠ a)) (.ref a) (.list ds) := .lst ndw q3 (q4.to (Ext.refl _ _) sub')
  by_cases z0 : a ∈ W0
  · -- cannot be: an owner's list of the entry stands in H0
    obtain ⟨o, e⟩ := S.tr0 a z0
    rw [q2] at e
    cases e
  · refine ⟨a, _, h1, sub', ⟨fun x hx => List.mem_filter.mpr ⟨S.sub x hx, by simp; rintro rfl; exact z0 hx⟩, S.tr0, fun x hx => S.new x (sub' x hx), fun x hx => S.tr x (sub' x hx), S.frame, S.src, fun j d hj => ?_, fun j k v es fs g1 g2 g3 g4 => ?_, by simp [S.len]⟩, Q⟩
    · by_cases z : i = j
      · subst z
        rw [List.getElem?_set_self hil] at hj
        cases hj
        exact ⟨_, h1, Q⟩
      · rw [List.getElem?_set_ne z] at hj
        obtain ⟨v, e1, e2⟩ := S.slot j d hj
        refine ⟨v, e1, ?_⟩
        cases d with
        | dat d => exact e2.to (Ext.refl _ _) sub'
        | own es =>
          obtain ⟨b, ys, rfl, r1, r2, r3, r4⟩ := e2
          refine ⟨b, ys, rfl, List.mem_filter.mpr ⟨r1, ?_⟩, r2, r3, r4.to (Ext.refl _ _) sub'⟩
          simp
          rintro rfl
          exact z (S.uniq i j _ _ _ hi hj h1 e1)
        | src => exact e2
        | scr ns =>
          obtain ⟨b, rfl, q⟩ := e2
          exact ⟨b, rfl, q.go fun o n h => ⟨h, fun z => n (sub' _ z)⟩⟩
    · have a1 : i ≠ j := by rintro rfl; rw [List.getElem?_set_self hil] at g1; cases g1
      have a2 : i ≠ k := by rintro rfl; rw [List.getElem?_set_self hil] at g2; cases g2
      rw [List.getElem?_set_ne a1] at g1
      rw [List.getElem?_set_ne a2] at g2
      exact S.uniq j k v es fs g1 g2 g3 g4
end
end DD

/-! The judgements over data, the expressions. -/
namespace DD
open PySem L2
/-- what is wanted of an error: the class at C made of the value d -/
abbrev Er' := Addr → PyData → Prop
abbrev DE := Env' → (PyData → Env' → Prop) → Er' → Prop
abbrev DT := Env' → (Bool → Env' → Prop) → Er' → Prop
abbrev DA := Env' → (List PyData → Env' → Prop) → Er' → Prop
/-- an error that is wanted so is wanted by the machine's reading -/
def ErOk (K : Fg) (H0 : Hp) (W0 : List Addr) (s : Option Addr) (EX : XK) (Er : Er') : Prop :=
  ∀ (C : Addr) (d : PyData) (dd : Addr) (v : V) (H : Hp), Er C d → (∀ b o, H0 b = some o → some b ≠ s → H b = some o) → (∀ a, s = some a → SrcAt H a) → H0 dd = none →
    H dd = some (.xd [(("value" : Str), v)]) → Dw K H W0 v d → EX (.ref C) (some dd) H
/-- behind an expression -/
def Bk (K : Fg) (H0 : Hp) (W0 : List Addr) (s : Option Addr) (W : List Addr) (σ : St) (H : Hp) (R : PyData → Env' → Prop) (Q : VK) : Prop :=
  ∀ (v : V) (d : PyData) (W' : List Addr) (ρ' : Env') (H' : Hp), R d ρ' → (∀ x ∈ W', x ∈ W) → Ext W H H' → SOk K H0 W0 s W' σ ρ' H' → Dw K H' W' v d → Q v H'
def BkT (K : Fg) (H0 : Hp) (W0 : List Addr) (s : Option Addr) (W : List Addr) (σ : St) (H : Hp) (R : Bool → Env' → Prop) (Q : Bool → Hp → Prop) : Prop :=
  ∀ (b : Bool) (W' : List Addr) (ρ' : Env') (H' : Hp), R b ρ' → (∀ x ∈ W', x ∈ W) → Ext W H H' → SOk K H0 W0 s W' σ ρ' H' → Q b H'
def BkA (K : Fg) (H0 : Hp) (W0 : List Addr) (s : Option Addr) (W : List Addr) (σ : St) (H : Hp) (R : List PyData → Env' → Prop) (Q : List V → Hp → Prop) : Prop :=
  ∀ (vs : List V) (ds : List PyData) (W' : List Addr) (ρ' : Env') (H' : Hp), R ds ρ' → (∀ x ∈ W', x ∈ W) → Ext W H H' → SOk K H0 W0 s W' σ ρ' H' → DwA K H' W' vs ds → Q vs H'
structure DEx (X : Cx) (EX : XK) (e : Expr) (dt : DE) : Prop where
  ex : ∃ t, PE X e t ∧ ∀ (s : Option Addr) (H0 : Hp) (W0 W : List Addr) (σ : St) (ρ : Env') (H : Hp) (R : PyData → Env' → Prop) (Er : Er') (Q : VK), SOk X.K H0 W0 s W σ ρ H → ErOk X.K H0 W0 s EX Er → dt ρ R Er → Bk X.K H0 W0 s W σ H R Q → t σ H Q
structure DTx (X : Cx) (EX : XK) (e : Expr) (dt : DT) : Prop where
  ex : ∃ t, PT X e t ∧ ∀ (s : Option Addr) (H0 : Hp) (W0 W : List Addr) (σ : St) (ρ : Env') (H : Hp) (R : Bool → Env' → Prop) (Er : Er') (Q : Bool → Hp → Prop), SOk X.K H0 W0 s W σ ρ H → ErOk X.K H0 W0 s EX Er → dt ρ R Er → BkT X.K H0 W0 s W σ H R Q → t σ H Q
structure DWx (X : Cx) (EX : XK) (e : Expr) (dt : DT) : Prop where
  ex : ∃ t, PW X e t ∧ ∀ (s : Option Addr) (H0 : Hp) (W0 W : List Addr) (σ : St) (ρ : Env') (H : Hp) (R : Bool → Env' → Prop) (Er : Er') (Q : Bool → Hp → Prop), SOk X.K H0 W0 s W σ ρ H → ErOk X.K H0 W0 s EX Er → dt ρ R Er → BkT X.K H0 W0 s W σ H R Q → t σ H Q
structure DAx (X : Cx) (EX : XK) (es : List Expr) (dt : DA) : Prop where
  ex : ∃ t, PA X es t ∧ ∀ (s : Option Addr) (H0 : Hp) (W0 W : List Addr) (σ : St) (ρ : Env') (H : Hp) (R : List PyData → Env' → Prop) (Er : Er') (Q : List V → Hp → Prop), SOk X.K H0 W0 s W σ ρ H → ErOk X.K H0 W0 s EX Er → dt ρ R Er → BkA X.K H0 W0 s W σ H R Q → t σ H Q
theorem DWx.pt {X : Cx} {EX : XK} {e : Expr} {dt : DT} (h : DWx X EX e dt) : DTx X EX e dt := by
  obtain ⟨t, p, q⟩ := h.ex
  exact ⟨t, p.pt, q⟩
theorem sub_tr {W W1 W2 : List Addr} (a : ∀ x ∈ W2, x ∈ W1) (b : ∀ x ∈ W1, x ∈ W) : ∀ x ∈ W2, x ∈ W := fun x h => b x (a x h)
theorem ext_tr {W W1 : List Addr} {H H1 H2 : Hp} (a : Ext W H H1) (b : Ext W1 H1 H2) (s : ∀ x ∈ W1, x ∈ W) : Ext W H H2 := a.trans (b.sub s)
section
variable {X : Cx} {EX : XK}
/-! ### names, constants -/
def dVar (i : Nat) : DE := fun ρ R _ => match ρ[i]? with
  | some (some (.dat d)) => R d ρ
  | _ => False
theorem de_var {i : Nat} {x : Str} {pos : Pos} (h : PE X (.Name x pos) (tVar i)) : DEx X EX (.Name x pos) (dVar i) := by
  refine ⟨tVar i, h, fun s H0 W0 W σ ρ H R Er Q S _ hd k => ?_⟩
  unfold dVar at hd
  split at hd
  · rename_i d e
    obtain ⟨v, h1, h2⟩ := S.slot i _ e
    exact ⟨v, h1, k v d W ρ H hd (fun _ z => z) (Ext.refl _ _) S h2⟩
  · exact hd.elim
/-- an own list is handed over -/
def dVarF (i : Nat) : DE := fun ρ R _ => match ρ[i]? with
  | some (some (.own ds)) => R (.list ds) (ρ.set i (some (.dat (.list ds))))
  | _ => False
theorem de_varF {i : Nat} {x : Str} {pos : Pos} (h : PE X (.Name x pos) (tVar i)) : DEx X EX (.Name x pos) (dVarF i) := by
  refine ⟨tVar i, h, fun s H0 W0 W σ ρ H R Er Q S _ hd k => ?_⟩
  unfold dVarF at hd
  split at hd
  · rename_i ds e
    obtain ⟨a, W', h1, sb, S', h2⟩ := S.freeze e
    exact ⟨.ref a, h1, k (.ref a) _ W' _ H hd sb (Ext.refl _ _) S' h2⟩
  · exact hd.elim
def dC (d : PyData) : DE := fun ρ R _ => R d ρ
theorem dC_ok {v : V} {d : PyData} {e : Expr} (h : PE X e (tC v)) (q : ∀ K H W, Dw K H W v d) : DEx X EX e (dC d) :=
  ⟨tC v, h, fun s H0 W0 W σ ρ H R Er Q S _ hd k => k v d W ρ H hd (fun _ z => z) (Ext.refl _ _) S (q _ _ _)⟩
theorem de_int {i : Int} {j pos} : DEx X EX (.Constant (.int i) j pos) (dC (.int i)) := dC_ok pe_int fun _ _ _ => .int i
theorem de_bl {b : Bool} {j pos} : DEx X EX (.Constant (.bool b) j pos) (dC (.bool b)) := dC_ok pe_bl fun _ _ _ => .bl b
theorem de_non {j pos} : DEx X EX (.Constant .none j pos) (dC .none) := dC_ok pe_non fun _ _ _ => .non
theorem de_str {x : Str} {j pos} : DEx X EX (.Constant (.str x) j pos) (dC (.str x)) := dC_ok pe_str fun _ _ _ => .str x
/-- a module's constant int -/
theorem de_gint {x : Str} {i : Int} {t : Tok} {pos : Pos} (hg : Gl X x) (hm : X.mg x = some (.int i t)) (hd : (x == ("__debug__" : Str)) = false := by decide) : DEx X EX (.Name x pos) (dC (.int i)) :=
  dC_ok (pe_glob (v := .int i) hg hm ⟨t, rfl⟩ hd) fun _ _ _ => .int i
/-- an expression seen weaker -/
theorem DEx.imp {e : Expr} {dt dt' : DE} (h : DEx X EX e dt) (q : ∀ ρ R Er, dt' ρ R Er → dt ρ R Er) : DEx X EX e dt' := by
  obtain ⟨t, p, r⟩ := h.ex
  exact ⟨t, p, fun s H0 W0 W σ ρ H R Er Q S eo hd k => r s H0 W0 W σ ρ H R Er Q S eo (q _ _ _ hd) k⟩
theorem DTx.imp {e : Expr} {dt dt' : DT} (h : DTx X EX e dt) (q : ∀ ρ R Er, dt' ρ R Er → dt ρ R Er) : DTx X EX e dt' := by
  obtain ⟨t, p, r⟩ := h.ex
  exact ⟨t, p, fun s H0 W0 W σ ρ H R Er Q S eo hd k => r s H0 W0 W σ ρ H R Er Q S eo (q _ _ _ hd) k⟩
/-! ### two operands -/
/-- what an operation does with data: a value, or nothing that we speak of -/
abbrev D2 := PyData → PyData → Option PyData
def dOp (f : D2) (a b : DE) : DE := fun ρ R Er => a ρ (fun x ρ1 => b ρ1 (fun y ρ2 => match f x y with
  | some z => R z ρ2
  | none => False) Er) Er
/-- a rule of values fits a rule of data -/
def R2Ok (K : Fg) (r : R2) (f : D2) : Prop := ∀ (H : Hp) (W : List Addr) (x y : V) (d e z : PyData) (Q : VK), Dw K H W x d → Dw K H W y e → f d e = some z →
  (∀ v H', Same H H' → (∀ p, H p = none → p ∉ W) → Dw K H' W v z → Q v H') → (∀ p, H p = none → p ∉ W) → r x y H Q
theorem op_ok {r : R2} {f : D2} {a b : Expr} {da db : DE} {e : Expr} (hr : R2Ok X.K r f) (ha : DEx X EX a da) (hb : DEx X EX b db) (mk : ∀ ta tb, PE X a ta → PE X b tb → PE X e (tOp r ta tb)) : DEx X EX e (dOp f da db) := by
  obtain ⟨ta, pa, qa⟩ := ha.ex
  obtain ⟨tb, pb, qb⟩ := hb.ex
  refine ⟨_, mk ta tb pa pb, fun s H0 W0 W σ ρ H R Er Q S eo hd k => ?_⟩
  refine qa s H0 W0 W σ ρ H _ Er _ S eo hd fun v d W1 ρ1 H1 hd1 s1 e1 S1 w1 => ?_
  refine qb s H0 W0 W1 σ ρ1 H1 _ Er _ S1 eo hd1 fun u e W2 ρ2 H2 hd2 s2 e2 S2 w2 => ?_
  have w1' : Dw X.K H2 W2 v d := w1.to e2 s2
  split at hd2
  · rename_i z hz
    exact hr H2 W2 v u d e z Q w1' w2 hz (fun y H3 sm _ w3 => k y z W2 ρ2 H3 hd2 (sub_tr s2 s1) ((ext_tr e1 e2 s1).trans (Ext.same sm)) (S2.same sm) w3) fun p hp => S2.fresh hp
  · exact hd2.elim
theorem R2Ok.or {K : Fg} {r r' : R2} {f f' : D2} (h : R2Ok K r f) (h' : R2Ok K r' f') : R2Ok K (fun x y H Q => r x y H Q ∨ r' x y H Q) (fun d e => match f d e with
    | some z => some z
    | none => f' d e) := by
  intro H W x y d e z Q hx hy hz k fr
  simp only at hz
  split at hz
  · rename_i w hw
    cases hz
    exact .inl (h H W x y d e _ Q hx hy hw k fr)
  · exact .inr (h' H W x y d e z Q hx hy hz k fr)
def dI2 (g : Int → Int → Int) : D2
  | .int i, .int j => some (.int (g i j))
  | _, _ => none
def dB2 (g : Int → Int → Bool) : D2
  | .int i, .int j => some (.bool (g i j))
  | _, _ => none
theorem r2_int {K : Fg} {g : Int → Int → Int} : R2Ok K (rI0 fun i j => .int (g i j)) (dI2 g) := by
  intro H W x y d e z Q hx hy hz k fr
  unfold dI2 at hz
  split at hz
  · cases hz
    cases hx
    cases hy
    exact ⟨_, _, rfl, rfl, k _ H (Same.refl H) fr (.int _)⟩
  · cases hz
theorem r2_bool {K : Fg} {g : Int → Int → Bool} : R2Ok K (rI0 fun i j => .bl (g i j)) (dB2 g) := by
  intro H W x y d e z Q hx hy hz k fr
  unfold dB2 at hz
  split at hz
  · cases hz
    cases hx
    cases hy
    exact ⟨_, _, rfl, rfl, k _ H (Same.refl H) fr (.bl _)⟩
  · cases hz
/-- with a condition that is decided -/
def dI2c (c : Int → Int → Bool) (g : Int → Int → Int) : D2
  | .int i, .int j => if c i j = true then some (.int (g i j)) else none
  | _, _ => none
theorem r2_intc {K : Fg} {C : Int → Int → Prop} {c : Int → Int → Bool} {g : Int → Int → Int} (h : ∀ i j, c i j = true → C i j) : R2Ok K (rI C fun i j => .int (g i j)) (dI2c c g) := by
  intro H W x y d e z Q hx hy hz k fr
  unfold dI2c at hz
  split at hz
  · split at hz
    · rename_i hc
      cases hz
      cases hx
      cases hy
      exact ⟨_, _, rfl, rfl, h _ _ hc, k _ H (Same.refl H) fr (.int _)⟩
    · cases hz
  · cases hz
end
end DD

/-! a tuple times an int, of any length -/
namespace DD
open PySem L2 PyProof.Rows
/-- once, or a tuple of nothing: the tuple itself -/
theorem tmul_same (l : Addr) (xs : Array Value) (n : Nat) (dd : Option Addr) (sl : Array (Option Value)) (x : Int) (u : Tok)
    (h0 : (decide (x < -(2 ^ 63)) || decide (x ≥ 2 ^ 63)) = false) (h1 : (xs.isEmpty || x == 1) = true) :
    Meets (Builtin.«tuple.__mul__» ⟨[.ref l, .int x u], []⟩) (fun _ R s =>
      s.heap.get? l = some { cls := .type "tuple", dict := dd, data := .seq xs n, slots := sl } ∧ R (.ok (.ret (Value.ref l))) s) :=
  .of_wp fun prog w A R s h => by
    obtain ⟨hp, g, d, tk, os⟩ := s
    obtain ⟨hl, h⟩ := h
    have fi := AutoSeq1.idx_int
    wp_walk using wpAny_loadPart' hl
    repeat (first
      | (refine wpAny_ite_false (decide_eq_false (by rw [h0]; exact Bool.false_ne_true)) ?_; wp_walk using wpAny_loadPart' hl)
      | (refine wpAny_ite_true (decide_eq_true h1) ?_; wp_walk using wpAny_loadPart' hl))
    all_goals first | exact ⟨_, rfl, h⟩ | trace_state
/-- no times, of a tuple of something: the empty tuple -/
theorem tmul_none (l : Addr) (xs : Array Value) (n : Nat) (dd : Option Addr) (sl : Array (Option Value)) (x : Int) (u : Tok)
    (h0 : (decide (x < -(2 ^ 63)) || decide (x ≥ 2 ^ 63)) = false) (h1 : (xs.isEmpty || x == 1) = false) (h2 : (decide (x ≤ 0) || xs.isEmpty) = true) :
    Meets (Builtin.«tuple.__mul__» ⟨[.ref l, .int x u], []⟩) (fun _ R s =>
      s.heap.get? l = some { cls := .type "tuple", dict := dd, data := .seq xs n, slots := sl } ∧
      R (.ok (.ret (Value.ref s.heap.objs.size))) { s with heap := s.heap.push { cls := Value.type "tuple", data := Data.seq #[] }, toks := s.toks }) :=
  .of_wp fun prog w A R s h => by
    obtain ⟨hp, g, d, tk, os⟩ := s
    obtain ⟨hl, h⟩ := h
    have fi := AutoSeq1.idx_int
    wp_walk using wpAny_loadPart' hl
    repeat (first
      | (refine wpAny_ite_false (decide_eq_false (by rw [h0]; exact Bool.false_ne_true)) ?_; wp_walk using wpAny_loadPart' hl)
      | (refine wpAny_ite_false (decide_eq_false (by rw [h1]; exact Bool.false_ne_true)) ?_; wp_walk using wpAny_loadPart' hl)
      | (refine wpAny_ite_true (decide_eq_true h2) ?_; wp_walk using wpAny_loadPart' hl))
    all_goals first | exact ⟨_, rfl, h⟩ | trace_state
/-- t * k at any k that is small -/
def rTMul (K : PySem.W.Frag) : R2 := fun x y H Q => ∃ l k xs, x = .ref l ∧ y = .int k ∧ SqT K H l xs ∧ -1000 ≤ k ∧ k ≤ 1000 ∧ xs.length ≤ 1000 ∧
  ((xs = [] ∨ k = 1) → Q (.ref l) H) ∧ (xs ≠ [] → k ≠ 1 → ∀ p, H p = none → Q (.ref p) (upd H p (.tup (List.replicate k.toNat xs).flatten)))
theorem op_tmul {X : Cx} : OpR X (binaryOp .Mult) (rTMul X.K) := by
  intro pins s σ H x y v u Q I rx ry h
  obtain ⟨l, k, xs, rfl, rfl, hT, b1, b2, hz, q1, q2⟩ := h
  by_cases hbig : xs ≠ [] ∧ 2 ≤ k
  · exact op_repT pins s σ H _ _ v u Q I rx ry ⟨l, k, xs, rfl, rfl, hT, hbig.1, hbig.2, b2, hz, q2 hbig.1 (by omega)⟩
  · cases rx
    obtain ⟨t, rfl⟩ := ry
    obtain ⟨its, r, ⟨⟨cls, dd, data, sl⟩, ho, hc, n, hd⟩, hs⟩ := I.tuple hT
    simp only at hc hd
    subst hc hd
    have c0 : (decide (k < -(2 ^ 63)) || decide (k ≥ 2 ^ 63)) = false := by
      rw [decide_eq_false (by omega), decide_eq_false (by omega)] <;> rfl
    have hem : its.toArray.isEmpty = xs.isEmpty := by cases r <;> rfl
    by_cases hsame : xs = [] ∨ k = 1
    · have c1 : (its.toArray.isEmpty || k == 1) = true := by
        rw [hem]
        rcases hsame with e | e <;> simp [e]
      refine wpAny_binaryOp_repeat_ref (T := "tuple") (U := "int") (by decide) ⟨_, ho, rfl⟩ (fun s' => typeIs_int s' k t) noFill_tuple_mul F.fills_int_mul F.slot_int_rmul repeat_tuple F.slot_int_index.lookup
        (call_meets F.slot_int_rmul (typeIs_int s k t) F.entry_int_rmul (F.args_int_rmul_2 _ _) (int_rmul_tuple k t l its.toArray n dd sl) ⟨ho, rfl, ⟨_, ho, rfl⟩, ?_⟩)
      exact call_meets F.slot_tuple_mul ⟨_, ho, rfl⟩ F.entry_tuple_mul (F.args_tuple_mul_2 _ _) (tmul_same l its.toArray n dd sl k t c0 c1) ⟨ho, ⟨.ref l, H, I, rfl, q1 hsame⟩⟩
    · have hne : xs ≠ [] := fun e => hsame (.inl e)
      have hk1 : k ≠ 1 := fun e => hsame (.inr e)
      have c1 : (its.toArray.isEmpty || k == 1) = false := by
        rw [hem]
        cases xs with
        | nil => exact absurd rfl hne
        | cons a b => simpa using hk1
      have hk0 : k ≤ 0 := by
        rcases Int.lt_or_le k 2 with z | z
        · omega
        · exact absurd ⟨hne, z⟩ hbig
      have c2 : (decide (k ≤ 0) || its.toArray.isEmpty) = true := by simp [hk0]
      refine wpAny_binaryOp_repeat_ref (T := "tuple") (U := "int") (by decide) ⟨_, ho, rfl⟩ (fun s' => typeIs_int s' k t) noFill_tuple_mul F.fills_int_mul F.slot_int_rmul repeat_tuple F.slot_int_index.lookup
        (call_meets F.slot_int_rmul (typeIs_int s k t) F.entry_int_rmul (F.args_int_rmul_2 _ _) (int_rmul_tuple k t l its.toArray n dd sl) ⟨ho, rfl, ⟨_, ho, rfl⟩, ?_⟩)
      refine call_meets F.slot_tuple_mul ⟨_, ho, rfl⟩ F.entry_tuple_mul (F.args_tuple_mul_2 _ _) (tmul_none l its.toArray n dd sl k t c0 c1 c2) ⟨ho, ?_⟩
      have e0 : (List.replicate k.toNat xs).flatten = [] := by
        have : k.toNat = 0 := by omega
        rw [this]; rfl
      refine ⟨.ref s.heap.objs.size, _, I.laid (t' := s.toks) (o := .tup []) (fun b ob q => Heap.get?_push_of_some _ q) (Nat.le_refl _) ?_, rfl, by have := q2 hne hk1 _ (I.hok.fresh (Nat.le_refl _)); rw [e0] at this; exact this⟩
      exact ⟨Nat.zero_le _, [], .nil, IsTup.new _ _⟩
end DD

/-! Operators over data. -/
namespace DD
open PySem L2
def big : Nat := 100000
theorem big_le {n : Nat} (h : n ≤ big) : n ≤ sizeLine := Nat.le_trans h (by rw [sizeLine_eq]; decide)
def fAdd : D2
  | .int i, .int j => some (.int (i + j))
  | .list xs, .list ys => if xs.length + ys.length ≤ big then some (.list (xs ++ ys)) else none
  | .tuple xs, .tuple ys => if xs.length + ys.length ≤ big then some (.tuple (xs ++ ys)) else none
  | _, _ => none
def fSub : D2 := dI2 fun i j => i - j
def mulOk (i j : Int) : Bool := (decide (-(2 ^ 64) < i) && decide (i < 2 ^ 64)) || (decide (-(2 ^ 64) < j) && decide (j < 2 ^ 64))
def fMul : D2
  | .int i, .int j => if mulOk i j = true then some (.int (i * j)) else none
  | .list xs, .int k => if decide (0 ≤ k) && decide (k ≤ 1000) && decide (xs.length ≤ 1000) then some (.list (List.replicate k.toNat xs).flatten) else none
  | .tuple xs, .int k => if decide (0 ≤ k) && decide (k ≤ 1000) && decide (xs.length ≤ 1000) then some (.tuple (List.replicate k.toNat xs).flatten) else none
  | _, _ => none
def fMod : D2 := dI2c (fun _ j => decide (0 < j)) fun i j => i % j
def fDiv : D2 := dI2c (fun _ j => decide (0 < j) && decide (j < 1073741824)) fun i j => i / j
/-- a number's size, that the machine asks of powers -/
def powOk (i j : Int) : Bool := decide (0 ≤ j) && decide ((Builtin.Int.intBits i : Int) * j ≤ 2 ^ 27)
def fPow : D2 := dI2c powOk fun i j => i ^ j.toNat
def fLt : D2 := dB2 fun i j => decide (i < j)
def fLe : D2 := dB2 fun i j => decide (i ≤ j)
def fGt : D2 := dB2 fun i j => decide (j < i)
def fGe : D2 := dB2 fun i j => decide (j ≤ i)
/-- == of data -/
def fEq : D2
  | .int i, .int j => some (.bool (decide (i = j)))
  | .str i, .str j => some (.bool (decide (i = j)))
  | d, e => if SeqAt.shaped d && SeqAt.shaped e then some (.bool (PyData.eqv d e)) else none
def fNe : D2
  | .int i, .int j => some (.bool (!decide (i = j)))
  | .str i, .str j => some (.bool (!decide (i = j)))
  | d, e => if SeqAt.shaped d && SeqAt.shaped e then some (.bool (!PyData.eqv d e)) else none
section
variable {K : Fg} {H : Hp} {W : List Addr}
theorem same_upd {p : Addr} {o : HO} (h : H p = none) : Same H (upd H p o) := fun b u e => by rw [upd_ne (ne_of_none e h)]; exact e
theorem r2_add : R2Ok K (fun x y H Q => rI0 (fun i j => .int (i + j)) x y H Q ∨ rCat x y H Q ∨ rCatA K x y H Q) fAdd := by
  intro H W x y d e z Q hx hy hz k fr
  unfold fAdd at hz
  split at hz
  · cases hz
    cases hx
    cases hy
    exact .inl ⟨_, _, rfl, rfl, k _ H (Same.refl H) fr (.int _)⟩
  · rename_i xs ys
    split at hz
    · rename_i hb
      cases hz
      cases hx with
      | lst n1 r1 q1 =>
        cases hy with
        | lst n2 r2 q2 =>
          have hl : ∀ {a b : Nat}, a + b ≤ big → a + b ≤ sizeLine := fun h => big_le h
          refine .inr (.inl ⟨_, _, _, _, rfl, rfl, r1, r2, hl (by rw [q1.length, q2.length]; exact hb), fun p hp => ?_⟩)
          exact k _ _ (same_upd hp) fr (Dw.newLst hp (fr p hp) (q1.append q2))
    · cases hz
  · rename_i xs ys
    split at hz
    · rename_i hb
      cases hz
      obtain ⟨a, rfl⟩ := hx.tupV
      obtain ⟨b, rfl⟩ := hy.tupV
      have hx0 := hx
      have hy0 := hy
      obtain ⟨us, h1, q1⟩ := hx.sqT
      obtain ⟨vs, h2, q2⟩ := hy.sqT
      refine .inr (.inr ⟨a, b, us, vs, rfl, rfl, h1, h2, big_le (by rw [q1.length, q2.length]; exact hb), fun e => ?_, fun n e => ?_, fun n1 n2 p hp => ?_⟩)
      · subst e
        have : xs = [] := by have := q1.length; simp at this; exact List.eq_nil_of_length_eq_zero this.symm
        subst this
        exact k _ H (Same.refl H) fr hy0
      · subst e
        have : ys = [] := by have := q2.length; simp at this; exact List.eq_nil_of_length_eq_zero this.symm
        subst this
        exact k _ H (Same.refl H) fr (by rw [List.append_nil]; exact hx0)
      · exact k _ _ (same_upd hp) fr (Dw.newTup hp (fr p hp) (q1.append q2))
    · cases hz
  · cases hz
theorem r2_mul : R2Ok K (fun x y H Q => rI CMul (fun i j => .int (i * j)) x y H Q ∨ rRep x y H Q ∨ rTMul K x y H Q) fMul := by
  intro H W x y d e z Q hx hy hz k fr
  unfold fMul at hz
  split at hz
  · split at hz
    · rename_i hb
      cases hz
      cases hx
      cases hy
      refine .inl ⟨_, _, rfl, rfl, ?_, k _ H (Same.refl H) fr (.int _)⟩
      unfold mulOk at hb
      simp only [Bool.or_eq_true, Bool.and_eq_true, decide_eq_true_eq] at hb
      exact hb
    · cases hz
  · split at hz
    · rename_i hb
      cases hz
      simp only [Bool.and_eq_true, decide_eq_true_eq] at hb
      obtain ⟨⟨h0, h1⟩, h2⟩ := hb
      cases hy
      cases hx with
      | lst n1 r1 q1 =>
        refine .inr (.inl ⟨_, _, _, rfl, rfl, r1, by omega, by omega, ?_, fun p hp => k _ _ (same_upd hp) fr (Dw.newLst hp (fr p hp) (q1.rep _))⟩)
        rw [sizeLine_eq, q1.length]
        exact Nat.le_trans (Nat.mul_le_mul h2 (Int.toNat_le.mpr h1)) (by decide)
    · cases hz
  · split at hz
    · rename_i xs kk hb
      cases hz
      simp only [Bool.and_eq_true, decide_eq_true_eq] at hb
      obtain ⟨⟨h0, h1⟩, h2⟩ := hb
      cases hy
      obtain ⟨a, rfl⟩ := hx.tupV
      have hx0 := hx
      obtain ⟨us, q0, q1⟩ := hx.sqT
      refine .inr (.inr ⟨a, _, us, rfl, rfl, q0, by omega, h1, by rw [q1.length]; exact h2, fun hs => ?_, fun _ _ p hp => k _ _ (same_upd hp) fr (Dw.newTup hp (fr p hp) (q1.rep _))⟩)
      have e : (List.replicate kk.toNat xs).flatten = xs := by
        rcases hs with e | e
        · subst e
          have : xs = [] := by have := q1.length; simp at this; exact List.eq_nil_of_length_eq_zero this.symm
          subst this
          generalize kk.toNat = n
          induction n with
          | zero => rfl
          | succ n ih => rw [List.replicate_succ, List.flatten_cons, ih]; rfl
        · subst e
          simp
      exact k _ H (Same.refl H) fr (by rw [e]; exact hx0)
    · cases hz
  · cases hz
theorem shaped_dict {d : PyData} (h : SeqAt.shaped d = true) : d.hasDict = false := PyData.hasDict_of_canLay d (SeqAt.canLay_of_shaped h)
end
section
variable {X : Cx}
/-- == over Dw -/
def rEqW (K : Fg) : R2 := fun x y H Q => ∃ W d e, Dw K H W x d ∧ Dw K H W y e ∧ SeqAt.shaped d = true ∧ SeqAt.shaped e = true ∧ Q (.bl (PyData.eqv d e)) H
def rNeW (K : Fg) : R2 := fun x y H Q => ∃ W d e, Dw K H W x d ∧ Dw K H W y e ∧ SeqAt.shaped d = true ∧ SeqAt.shaped e = true ∧ Q (.bl (!PyData.eqv d e)) H
theorem op_eqW (hu : X.A.units + 64 < cLine) : OpR X (compareOp .Eq) (rEqW X.K) := by
  intro pins s σ H x y v u Q I rx ry h
  obtain ⟨W, d, e, hd, he, sd, se, q⟩ := h
  obtain ⟨as, r1⟩ := Dw.reads I d x v (shaped_dict sd) hd rx
  obtain ⟨bs, r2⟩ := Dw.reads I e y u (shaped_dict se) he ry
  exact SeqAt.compareEq_shaped r1 r2 sd se hu ⟨.bl _, H, I, rfl, q⟩
theorem op_neW (hu : X.A.units + 64 < cLine) : OpR X (compareOp .NotEq) (rNeW X.K) := by
  intro pins s σ H x y v u Q I rx ry h
  obtain ⟨W, d, e, hd, he, sd, se, q⟩ := h
  obtain ⟨as, r1⟩ := Dw.reads I d x v (shaped_dict sd) hd rx
  obtain ⟨bs, r2⟩ := Dw.reads I e y u (shaped_dict se) he ry
  exact SeqAt.compareNe_shaped r1 r2 sd se hu ⟨.bl _, H, I, rfl, q⟩
theorem shaped_int (i : Int) : SeqAt.shaped (.int i) = true := by
  unfold SeqAt.shaped
  simp [PyData.canLay0, PyData.depth]
theorem eqv_int (i j : Int) : PyData.eqv (.int i) (.int j) = decide (i = j) := by
  simp only [PyData.eqv, Bool.beq_eq_decide_eq]
theorem r2_eq {K : Fg} : R2Ok K (fun x y H Q => rEq x y H Q ∨ rEqW K x y H Q) fEq := by
  intro H W x y d e z Q hx hy hz k fr
  unfold fEq at hz
  split at hz
  · cases hz
    refine .inr ⟨W, _, _, hx, hy, shaped_int _, shaped_int _, ?_⟩
    rw [eqv_int]
    exact k (.bl _) H (Same.refl H) fr (.bl _)
  · rename_i i j
    cases hz
    cases hx
    cases hy
    refine .inl ⟨rfl, ?_⟩
    have e : decide (V.str i = V.str j) = decide (i = j) := by simp
    rw [e]
    exact k (.bl _) H (Same.refl H) fr (.bl _)
  · split at hz
    · rename_i hs
      cases hz
      simp only [Bool.and_eq_true] at hs
      exact .inr ⟨W, _, _, hx, hy, hs.1, hs.2, k _ H (Same.refl H) fr (.bl _)⟩
    · cases hz
theorem r2_ne {K : Fg} : R2Ok K (fun x y H Q => rNe x y H Q ∨ rNeW K x y H Q) fNe := by
  intro H W x y d e z Q hx hy hz k fr
  unfold fNe at hz
  split at hz
  · cases hz
    refine .inr ⟨W, _, _, hx, hy, shaped_int _, shaped_int _, ?_⟩
    rw [eqv_int]
    exact k (.bl _) H (Same.refl H) fr (.bl _)
  · rename_i i j
    cases hz
    cases hx
    cases hy
    refine .inl ⟨rfl, ?_⟩
    have e : decide (V.str i = V.str j) = decide (i = j) := by simp
    rw [e]
    exact k (.bl _) H (Same.refl H) fr (.bl _)
  · split at hz
    · rename_i hs
      cases hz
      simp only [Bool.and_eq_true] at hs
      exact .inr ⟨W, _, _, hx, hy, hs.1, hs.2, k _ H (Same.refl H) fr (.bl _)⟩
    · cases hz
theorem op_powW : OpR X (binaryOp .Pow) (rI (fun i j => 0 ≤ j ∧ (Builtin.Int.intBits i : Int) * j ≤ 2 ^ 27) fun i j => .int (i ^ j.toNat)) := opI fun _ _ _ _ _ _ _ hc q => PyProof.Rows.pow_int hc.1 hc.2 q
/-! ### the rules as they are used -/
variable {EX : XK} {a b : Expr} {da db : DE} {pos : Pos}
theorem de_add (ha : DEx X EX a da) (hb : DEx X EX b db) : DEx X EX (.BinOp a .Add b pos) (dOp fAdd da db) := op_ok r2_add ha hb fun _ _ p q => pe_op (op_add.or (op_cat.or op_catA)) p q
theorem de_sub (ha : DEx X EX a da) (hb : DEx X EX b db) : DEx X EX (.BinOp a .Sub b pos) (dOp fSub da db) := op_ok r2_int ha hb fun _ _ p q => pe_op op_sub p q
theorem de_mul (ha : DEx X EX a da) (hb : DEx X EX b db) : DEx X EX (.BinOp a .Mult b pos) (dOp fMul da db) := op_ok r2_mul ha hb fun _ _ p q => pe_op (op_mul.or (op_rep.or op_tmul)) p q
theorem de_mod (ha : DEx X EX a da) (hb : DEx X EX b db) : DEx X EX (.BinOp a .Mod b pos) (dOp fMod da db) := op_ok (r2_intc fun _ _ h => of_decide_eq_true h) ha hb fun _ _ p q => pe_op op_mod p q
theorem de_div (ha : DEx X EX a da) (hb : DEx X EX b db) : DEx X EX (.BinOp a .FloorDiv b pos) (dOp fDiv da db) :=
  op_ok (r2_intc (C := CDiv) fun _ _ h => by simp only [Bool.and_eq_true, decide_eq_true_eq] at h; exact h) ha hb fun _ _ p q => pe_op op_fdiv p q
theorem de_pow (ha : DEx X EX a da) (hb : DEx X EX b db) : DEx X EX (.BinOp a .Pow b pos) (dOp fPow da db) :=
  op_ok (r2_intc fun _ _ h => by unfold powOk at h; simp only [Bool.and_eq_true, decide_eq_true_eq] at h; exact h) ha hb fun _ _ p q => pe_op op_powW p q
theorem de_lt (ha : DEx X EX a da) (hb : DEx X EX b db) : DEx X EX (.Compare a [.Lt] [b] pos) (dOp fLt da db) := op_ok r2_bool ha hb fun _ _ p q => pe_cmpR op_lt p q (nomark _)
theorem de_le (ha : DEx X EX a da) (hb : DEx X EX b db) : DEx X EX (.Compare a [.LtE] [b] pos) (dOp fLe da db) := op_ok r2_bool ha hb fun _ _ p q => pe_cmpR op_le p q (nomark _)
theorem de_gt (ha : DEx X EX a da) (hb : DEx X EX b db) : DEx X EX (.Compare a [.Gt] [b] pos) (dOp fGt da db) := op_ok r2_bool ha hb fun _ _ p q => pe_cmpR op_gt p q (nomark _)
theorem de_ge (ha : DEx X EX a da) (hb : DEx X EX b db) : DEx X EX (.Compare a [.GtE] [b] pos) (dOp fGe da db) := op_ok r2_bool ha hb fun _ _ p q => pe_cmpR op_ge p q (nomark _)
theorem de_eq (hu : X.A.units + 64 < cLine) (ha : DEx X EX a da) (hb : DEx X EX b db) : DEx X EX (.Compare a [.Eq] [b] pos) (dOp fEq da db) := op_ok r2_eq ha hb fun _ _ p q => pe_cmpR (op_eq.or (op_eqW hu)) p q (nomark _)
theorem de_ne (hu : X.A.units + 64 < cLine) (ha : DEx X EX a da) (hb : DEx X EX b db) : DEx X EX (.Compare a [.NotEq] [b] pos) (dOp fNe da db) := op_ok r2_ne ha hb fun _ _ p q => pe_cmpR (op_ne.or (op_neW hu)) p q (nomark _)
end
end DD

/-! Tests, subscripts, displays, calls of what is built in. -/
namespace DD
open PySem L2
section
variable {X : Cx} {EX : XK} {a b c e : Expr} {da db dc : DE} {pos : Pos}
/-! ### truth -/
def truD : PyData → Option Bool
  | .none => some false
  | .bool k => some k
  | .int i => some (i != 0)
  | .str _ => none
  | .list xs => some (!xs.isEmpty)
  | .tuple xs => some (!xs.isEmpty)
  | .dict kvs => some (!kvs.isEmpty)
theorem DwA.isEmpty {K : Fg} {H : Hp} {W : List Addr} {xs : List V} {ds : List PyData} (q : DwA K H W xs ds) : xs.isEmpty = ds.isEmpty := by cases q <;> rfl
theorem truV_of {K : Fg} {H : Hp} {W : List Addr} {v : V} {d : PyData} {k : Bool} (h : Dw K H W v d) (e : truD d = some k) : TruV K v H k := by
  cases h with
  | non => cases e; rfl
  | bl b => cases e; rfl
  | int i => cases e; rfl
  | str x => cases e
  | lst n r q => cases e; exact .inl ⟨_, SqL.of r, by rw [q.isEmpty]⟩
  | tup n r q => cases e; exact .inr (.inl ⟨_, SqT.of r, by rw [q.isEmpty]⟩)
  | ktup kt q =>
    cases e
    obtain ⟨o, its, n, h1, h2, h3, h4, h5⟩ := kt
    exact .inr (.inl ⟨_, .inr ⟨o, its, n, h1, h2, h3, h4, h5⟩, by rw [q.isEmpty]⟩)
  | dct n r kk q =>
    cases e
    refine .inr (.inr ⟨_, r, ?_⟩)
    have := q.length
    simp only [List.length_map] at this
    rename_i kvs ds
    cases kvs with
    | nil => cases ds with
      | nil => rfl
      | cons a b => simp at this
    | cons a b => cases ds with
      | nil => simp at this
      | cons a b => rfl
def dTru (a : DE) : DT := fun ρ R Er => a ρ (fun d ρ1 => match truD d with
  | some k => R k ρ1
  | none => False) Er
theorem dt_tru (ha : DEx X EX a da) (he : ∀ whole, isTrue a X.env whole = (do let v ← whole; standAt a.pos; holding [v] (truthy v)) := by intro _; rfl) : DTx X EX a (dTru da) := by
  obtain ⟨t, p, q⟩ := ha.ex
  refine ⟨_, pt_truth p he, fun s H0 W0 W σ ρ H R Er Q S eo hd k => ?_⟩
  refine q s H0 W0 W σ ρ H _ Er _ S eo hd fun v d W1 ρ1 H1 hd1 s1 e1 S1 w1 => ?_
  split at hd1
  · rename_i kk hk
    exact ⟨kk, truV_of w1 hk, k kk W1 ρ1 H1 hd1 s1 e1 S1⟩
  · exact hd1.elim
/-! ### comparisons as tests -/
def dTOp (f : D2) (a b : DE) : DT := fun ρ R Er => a ρ (fun x ρ1 => b ρ1 (fun y ρ2 => match f x y with
  | some (.bool k) => R k ρ2
  | _ => False) Er) Er
theorem top_ok {r : R2} {f : D2} (hr : R2Ok X.K r f) (ha : DEx X EX a da) (hb : DEx X EX b db) (mk : ∀ ta tb, PE X a ta → PE X b tb → PT X e (tTest (tOp r ta tb))) : DTx X EX e (dTOp f da db) := by
  obtain ⟨ta, pa, qa⟩ := ha.ex
  obtain ⟨tb, pb, qb⟩ := hb.ex
  refine ⟨_, mk ta tb pa pb, fun s H0 W0 W σ ρ H R Er Q S eo hd k => ?_⟩
  refine qa s H0 W0 W σ ρ H _ Er _ S eo hd fun v d W1 ρ1 H1 hd1 s1 e1 S1 w1 => ?_
  refine qb s H0 W0 W1 σ ρ1 H1 _ Er _ S1 eo hd1 fun u e W2 ρ2 H2 hd2 s2 e2 S2 w2 => ?_
  have w1' : Dw X.K H2 W2 v d := w1.to e2 s2
  split at hd2
  · rename_i kk hz
    refine hr H2 W2 v u d e _ _ w1' w2 hz (fun y H3 sm _ w3 => ?_) fun p hp => S2.fresh hp
    cases w3
    exact ⟨kk, rfl, k kk W2 ρ2 H3 hd2 (sub_tr s2 s1) ((ext_tr e1 e2 s1).trans (Ext.same sm)) (S2.same sm)⟩
  · exact hd2.elim
theorem dt_lt (ha : DEx X EX a da) (hb : DEx X EX b db) : DTx X EX (.Compare a [.Lt] [b] pos) (dTOp fLt da db) := top_ok r2_bool ha hb fun _ _ p q => pt_cmpR op_lt p q (nomark _)
theorem dt_le (ha : DEx X EX a da) (hb : DEx X EX b db) : DTx X EX (.Compare a [.LtE] [b] pos) (dTOp fLe da db) := top_ok r2_bool ha hb fun _ _ p q => pt_cmpR op_le p q (nomark _)
theorem dt_gt (ha : DEx X EX a da) (hb : DEx X EX b db) : DTx X EX (.Compare a [.Gt] [b] pos) (dTOp fGt da db) := top_ok r2_bool ha hb fun _ _ p q => pt_cmpR op_gt p q (nomark _)
theorem dt_ge (ha : DEx X EX a da) (hb : DEx X EX b db) : DTx X EX (.Compare a [.GtE] [b] pos) (dTOp fGe da db) := top_ok r2_bool ha hb fun _ _ p q => pt_cmpR op_ge p q (nomark _)
theorem dt_eq (hu : X.A.units + 64 < cLine) (ha : DEx X EX a da) (hb : DEx X EX b db) : DTx X EX (.Compare a [.Eq] [b] pos) (dTOp fEq da db) := top_ok r2_eq ha hb fun _ _ p q => pt_cmpR (op_eq.or (op_eqW hu)) p q (nomark _)
theorem dt_ne (hu : X.A.units + 64 < cLine) (ha : DEx X EX a da) (hb : DEx X EX b db) : DTx X EX (.Compare a [.NotEq] [b] pos) (dTOp fNe da db) := top_ok r2_ne ha hb fun _ _ p q => pt_cmpR (op_ne.or (op_neW hu)) p q (nomark _)
/-! ### is -/
def fIsB : D2
  | .bool i, .bool j => some (.bool (decide (i = j)))
  | _, _ => none
def fNotB : D2
  | .bool i, .bool j => some (.bool (!decide (i = j)))
  | _, _ => none
theorem r2_isB {K : Fg} : R2Ok K rIsB fIsB := by
  intro H W x y d e z Q hx hy hz k fr
  unfold fIsB at hz
  split at hz
  · cases hz
    cases hx
    cases hy
    exact ⟨_, _, rfl, rfl, k _ H (Same.refl H) fr (.bl _)⟩
  · cases hz
theorem r2_notB {K : Fg} : R2Ok K rNotB fNotB := by
  intro H W x y d e z Q hx hy hz k fr
  unfold fNotB at hz
  split at hz
  · cases hz
    cases hx
    cases hy
    exact ⟨_, _, rfl, rfl, k _ H (Same.refl H) fr (.bl _)⟩
  · cases hz
theorem de_isB (ha : DEx X EX a da) (hb : DEx X EX b db) : DEx X EX (.Compare a [.Is] [b] pos) (dOp fIsB da db) := op_ok r2_isB ha hb fun _ _ p q => pe_cmpR op_isBl p q (nomark _)
theorem de_notB (ha : DEx X EX a da) (hb : DEx X EX b db) : DEx X EX (.Compare a [.IsNot] [b] pos) (dOp fNotB da db) := op_ok r2_notB ha hb fun _ _ p q => pe_cmpR op_notBl p q (nomark _)
theorem dt_isB (ha : DEx X EX a da) (hb : DEx X EX b db) : DTx X EX (.Compare a [.Is] [b] pos) (dTOp fIsB da db) := top_ok r2_isB ha hb fun _ _ p q => pt_cmpR op_isBl p q (nomark _)
theorem dt_notB (ha : DEx X EX a da) (hb : DEx X EX b db) : DTx X EX (.Compare a [.IsNot] [b] pos) (dTOp fNotB da db) := top_ok r2_notB ha hb fun _ _ p q => pt_cmpR op_notBl p q (nomark _)
def isNonD : PyData → Bool
  | .none => true
  | _ => false
theorem non_iff {K : Fg} {H : Hp} {W : List Addr} {v : V} {d : PyData} (h : Dw K H W v d) : decide (v = .non) = isNonD d := by
  cases h <;> simp [isNonD]
def dIsN (a : DE) : DE := fun ρ R Er => a ρ (fun d ρ1 => R (.bool (isNonD d)) ρ1) Er
def dNotN (a : DE) : DE := fun ρ R Er => a ρ (fun d ρ1 => R (.bool (!isNonD d)) ρ1) Er
def dTIsN (a : DE) : DT := fun ρ R Er => a ρ (fun d ρ1 => R (isNonD d) ρ1) Er
def dTNotN (a : DE) : DT := fun ρ R Er => a ρ (fun d ρ1 => R (!isNonD d) ρ1) Er
theorem de_isN {j pos'} (ha : DEx X EX a da) : DEx X EX (.Compare a [.Is] [.Constant .none j pos'] pos) (dIsN da) := by
  obtain ⟨t, p, q⟩ := ha.ex
  refine ⟨_, pe_cmp (pc_isN p) rfl, fun s H0 W0 W σ ρ H R Er Q S eo hd k => ?_⟩
  refine q s H0 W0 W σ ρ H _ Er _ S eo hd fun v d W1 ρ1 H1 hd1 s1 e1 S1 w1 => ?_
  rw [non_iff w1]
  exact k _ _ W1 ρ1 H1 hd1 s1 e1 S1 (.bl _)
theorem de_notN {j pos'} (ha : DEx X EX a da) : DEx X EX (.Compare a [.IsNot] [.Constant .none j pos'] pos) (dNotN da) := by
  obtain ⟨t, p, q⟩ := ha.ex
  refine ⟨_, pe_cmp (pc_notN p) rfl, fun s H0 W0 W σ ρ H R Er Q S eo hd k => ?_⟩
  refine q s H0 W0 W σ ρ H _ Er _ S eo hd fun v d W1 ρ1 H1 hd1 s1 e1 S1 w1 => ?_
  rw [non_iff w1]
  exact k _ _ W1 ρ1 H1 hd1 s1 e1 S1 (.bl _)
theorem dt_isN {j pos'} (ha : DEx X EX a da) : DTx X EX (.Compare a [.Is] [.Constant .none j pos'] pos) (dTIsN da) := by
  obtain ⟨t, p, q⟩ := ha.ex
  refine ⟨_, pt_cmp (pc_isN p) rfl, fun s H0 W0 W σ ρ H R Er Q S eo hd k => ?_⟩
  refine q s H0 W0 W σ ρ H _ Er _ S eo hd fun v d W1 ρ1 H1 hd1 s1 e1 S1 w1 => ⟨_, rfl, ?_⟩
  rw [non_iff w1]
  exact k _ W1 ρ1 H1 hd1 s1 e1 S1
theorem dt_notN {j pos'} (ha : DEx X EX a da) : DTx X EX (.Compare a [.IsNot] [.Constant .none j pos'] pos) (dTNotN da) := by
  obtain ⟨t, p, q⟩ := ha.ex
  refine ⟨_, pt_cmp (pc_notN p) rfl, fun s H0 W0 W σ ρ H R Er Q S eo hd k => ?_⟩
  refine q s H0 W0 W σ ρ H _ Er _ S eo hd fun v d W1 ρ1 H1 hd1 s1 e1 S1 w1 => ⟨_, rfl, ?_⟩
  rw [non_iff w1]
  exact k _ W1 ρ1 H1 hd1 s1 e1 S1
/-! ### and, or, not, if -/
def dTAnd (a b : DT) : DT := fun ρ R Er => a ρ (fun k ρ1 => match k with | true => b ρ1 R Er | false => R false ρ1) Er
def dTOr (a b : DT) : DT := fun ρ R Er => a ρ (fun k ρ1 => match k with | true => R true ρ1 | false => b ρ1 R Er) Er
def dTNot (a : DT) : DT := fun ρ R Er => a ρ (fun k ρ1 => R (!k) ρ1) Er
def dAnd (a b : DE) : DE := fun ρ R Er => a ρ (fun d ρ1 => match d with | .bool true => b ρ1 R Er | .bool false => R (.bool false) ρ1 | _ => False) Er
def dOr (a b : DE) : DE := fun ρ R Er => a ρ (fun d ρ1 => match d with | .bool false => b ρ1 R Er | .bool true => R (.bool true) ρ1 | _ => False) Er
def dNot (a : DE) : DE := fun ρ R Er => a ρ (fun d ρ1 => match d with | .bool k => R (.bool (!k)) ρ1 | _ => False) Er
def dIf (c : DT) (a b : DE) : DE := fun ρ R Er => c ρ (fun k ρ1 => match k with | true => a ρ1 R Er | false => b ρ1 R Er) Er
variable {ta tb : DT} {rest : List Expr}
theorem dw_and1 (ha : DTx X EX a ta) : DWx X EX (.BoolOp .And [a] pos) ta := by
  obtain ⟨t, p, q⟩ := ha.ex
  exact ⟨t, pw_and1 p, q⟩
theorem dw_or1 (ha : DTx X EX a ta) : DWx X EX (.BoolOp .Or [a] pos) ta := by
  obtain ⟨t, p, q⟩ := ha.ex
  exact ⟨t, pw_or1 p, q⟩
theorem dw_and (ha : DTx X EX a ta) (hb : DWx X EX (.BoolOp .And (b :: rest) pos) tb) : DWx X EX (.BoolOp .And (a :: b :: rest) pos) (dTAnd ta tb) := by
  obtain ⟨t, p, q⟩ := ha.ex
  obtain ⟨t2, p2, q2⟩ := hb.ex
  refine ⟨_, pw_and p p2, fun s H0 W0 W σ ρ H R Er Q S eo hd k => ?_⟩
  refine q s H0 W0 W σ ρ H _ Er _ S eo hd fun b W1 ρ1 H1 hd1 s1 e1 S1 => ?_
  cases b with
  | true => exact iteT (q2 s H0 W0 W1 σ ρ1 H1 R Er Q S1 eo hd1 fun b W2 ρ2 H2 hd2 s2 e2 S2 => k b W2 ρ2 H2 hd2 (sub_tr s2 s1) (ext_tr e1 e2 s1) S2)
  | false => exact iteF (k false W1 ρ1 H1 hd1 s1 e1 S1)
theorem dw_or (ha : DTx X EX a ta) (hb : DWx X EX (.BoolOp .Or (b :: rest) pos) tb) : DWx X EX (.BoolOp .Or (a :: b :: rest) pos) (dTOr ta tb) := by
  obtain ⟨t, p, q⟩ := ha.ex
  obtain ⟨t2, p2, q2⟩ := hb.ex
  refine ⟨_, pw_or p p2, fun s H0 W0 W σ ρ H R Er Q S eo hd k => ?_⟩
  refine q s H0 W0 W σ ρ H _ Er _ S eo hd fun b W1 ρ1 H1 hd1 s1 e1 S1 => ?_
  cases b with
  | false => exact iteF (q2 s H0 W0 W1 σ ρ1 H1 R Er Q S1 eo hd1 fun b W2 ρ2 H2 hd2 s2 e2 S2 => k b W2 ρ2 H2 hd2 (sub_tr s2 s1) (ext_tr e1 e2 s1) S2)
  | true => exact iteT (k true W1 ρ1 H1 hd1 s1 e1 S1)
theorem dt_not (ha : DTx X EX a ta) : DTx X EX (.UnaryOp .Not a pos) (dTNot ta) := by
  obtain ⟨t, p, q⟩ := ha.ex
  refine ⟨_, pt_not p, fun s H0 W0 W σ ρ H R Er Q S eo hd k => ?_⟩
  exact q s H0 W0 W σ ρ H _ Er _ S eo hd fun b W1 ρ1 H1 hd1 s1 e1 S1 => k _ W1 ρ1 H1 hd1 s1 e1 S1
theorem de_one {op} (ha : DEx X EX a da) : DEx X EX (.BoolOp op [a] pos) da := by
  obtain ⟨t, p, q⟩ := ha.ex
  exact ⟨t, pe_one p, q⟩
theorem de_and (ha : DEx X EX a da) (hb : DEx X EX (.BoolOp .And (b :: rest) pos) db) : DEx X EX (.BoolOp .And (a :: b :: rest) pos) (dAnd da db) := by
  obtain ⟨t, p, q⟩ := ha.ex
  obtain ⟨t2, p2, q2⟩ := hb.ex
  refine ⟨_, pe_and p p2, fun s H0 W0 W σ ρ H R Er Q S eo hd k => ?_⟩
  refine q s H0 W0 W σ ρ H _ Er _ S eo hd fun v d W1 ρ1 H1 hd1 s1 e1 S1 w1 => ?_
  split at hd1
  · cases w1
    exact ⟨true, rfl, iteT (q2 s H0 W0 W1 σ ρ1 H1 R Er Q S1 eo hd1 fun v b W2 ρ2 H2 hd2 s2 e2 S2 w2 => k v b W2 ρ2 H2 hd2 (sub_tr s2 s1) (ext_tr e1 e2 s1) S2 w2)⟩
  · cases w1
    exact ⟨false, rfl, iteF (k _ _ W1 ρ1 H1 hd1 s1 e1 S1 (.bl false))⟩
  · exact hd1.elim
theorem de_or (ha : DEx X EX a da) (hb : DEx X EX (.BoolOp .Or (b :: rest) pos) db) : DEx X EX (.BoolOp .Or (a :: b :: rest) pos) (dOr da db) := by
  obtain ⟨t, p, q⟩ := ha.ex
  obtain ⟨t2, p2, q2⟩ := hb.ex
  refine ⟨_, pe_or p p2, fun s H0 W0 W σ ρ H R Er Q S eo hd k => ?_⟩
  refine q s H0 W0 W σ ρ H _ Er _ S eo hd fun v d W1 ρ1 H1 hd1 s1 e1 S1 w1 => ?_
  split at hd1
  · cases w1
    exact ⟨false, rfl, iteF (q2 s H0 W0 W1 σ ρ1 H1 R Er Q S1 eo hd1 fun v b W2 ρ2 H2 hd2 s2 e2 S2 w2 => k v b W2 ρ2 H2 hd2 (sub_tr s2 s1) (ext_tr e1 e2 s1) S2 w2)⟩
  · cases w1
    exact ⟨true, rfl, iteT (k _ _ W1 ρ1 H1 hd1 s1 e1 S1 (.bl true))⟩
  · exact hd1.elim
theorem de_not (ha : DEx X EX a da) : DEx X EX (.UnaryOp .Not a pos) (dNot da) := by
  obtain ⟨t, p, q⟩ := ha.ex
  refine ⟨_, pe_not p, fun s H0 W0 W σ ρ H R Er Q S eo hd k => ?_⟩
  refine q s H0 W0 W σ ρ H _ Er _ S eo hd fun v d W1 ρ1 H1 hd1 s1 e1 S1 w1 => ?_
  split at hd1
  · cases w1
    exact ⟨_, rfl, k _ _ W1 ρ1 H1 hd1 s1 e1 S1 (.bl _)⟩
  · exact hd1.elim
theorem de_if (hc : DTx X EX c ta) (ha : DEx X EX a da) (hb : DEx X EX b db) : DEx X EX (.IfExp c a b pos) (dIf ta da db) := by
  obtain ⟨t, p, q⟩ := hc.ex
  obtain ⟨t1, p1, q1⟩ := ha.ex
  obtain ⟨t2, p2, q2⟩ := hb.ex
  refine ⟨_, pe_ifExp p p1 p2, fun s H0 W0 W σ ρ H R Er Q S eo hd k => ?_⟩
  refine q s H0 W0 W σ ρ H _ Er _ S eo hd fun b W1 ρ1 H1 hd1 s1 e1 S1 => ?_
  cases b with
  | true => exact iteT (q1 s H0 W0 W1 σ ρ1 H1 R Er Q S1 eo hd1 fun v b W2 ρ2 H2 hd2 s2 e2 S2 w2 => k v b W2 ρ2 H2 hd2 (sub_tr s2 s1) (ext_tr e1 e2 s1) S2 w2)
  | false => exact iteF (q2 s H0 W0 W1 σ ρ1 H1 R Er Q S1 eo hd1 fun v b W2 ρ2 H2 hd2 s2 e2 S2 w2 => k v b W2 ρ2 H2 hd2 (sub_tr s2 s1) (ext_tr e1 e2 s1) S2 w2)
/-! ### a < b < c of ints -/
def dChain (f g : D2) (a b c : DE) : DE := fun ρ R Er => a ρ (fun x ρ1 => b ρ1 (fun y ρ2 => match f x y with
  | some (.bool true) => c ρ2 (fun z ρ3 => match g y z with
    | some r => R r ρ3
    | none => False) Er
  | some (.bool false) => R (.bool false) ρ2
  | _ => False) Er) Er
def dTChain (f g : D2) (a b c : DE) : DT := fun ρ R Er => a ρ (fun x ρ1 => b ρ1 (fun y ρ2 => match f x y with
  | some (.bool true) => c ρ2 (fun z ρ3 => match g y z with
    | some (.bool k) => R k ρ3
    | _ => False) Er
  | some (.bool false) => R false ρ2
  | _ => False) Er) Er
theorem chain_ok {r r' : R2} {f g : D2} (hr : R2Ok X.K r f) (hr' : R2Ok X.K r' g) (ha : DEx X EX a da) (hb : DEx X EX b db) (hc : DEx X EX c dc) (mk : ∀ ta tb tc, PE X a ta → PE X b tb → PE X c tc → PE X e (tChain r r' ta tb tc)) : DEx X EX e (dChain f g da db dc) := by
  obtain ⟨ta, pa, qa⟩ := ha.ex
  obtain ⟨tb, pb, qb⟩ := hb.ex
  obtain ⟨tc, pc, qc⟩ := hc.ex
  refine ⟨_, mk ta tb tc pa pb pc, fun s H0 W0 W σ ρ H R Er Q S eo hd k => ?_⟩
  refine qa s H0 W0 W σ ρ H _ Er _ S eo hd fun v d W1 ρ1 H1 hd1 s1 e1 S1 w1 => ?_
  refine qb s H0 W0 W1 σ ρ1 H1 _ Er _ S1 eo hd1 fun u e W2 ρ2 H2 hd2 s2 e2 S2 w2 => ?_
  have w1' : Dw X.K H2 W2 v d := w1.to e2 s2
  split at hd2
  · rename_i hz
    refine hr H2 W2 v u d e _ _ w1' w2 hz (fun y H3 sm _ w3 => ?_) fun p hp => S2.fresh hp
    cases w3
    refine ⟨true, rfl, iteT ?_⟩
    refine qc s H0 W0 W2 σ ρ2 H3 _ Er _ (S2.same sm) eo hd2 fun x z W4 ρ4 H4 hd4 s4 e4 S4 w4 => ?_
    have w2' : Dw X.K H4 W4 u e := (w2.to (Ext.same sm) fun _ z => z).to e4 s4
    split at hd4
    · rename_i rr hrr
      exact hr' H4 W4 u x e z rr Q w2' w4 hrr (fun y H5 sm5 _ w5 => k y rr W4 ρ4 H5 hd4 (sub_tr s4 (sub_tr s2 s1)) ((ext_tr ((ext_tr e1 e2 s1).trans (Ext.same sm)) e4 (sub_tr s2 s1)).trans (Ext.same sm5)) (S4.same sm5) w5) fun p hp => S4.fresh hp
    · exact hd4.elim
  · rename_i hz
    refine hr H2 W2 v u d e _ _ w1' w2 hz (fun y H3 sm _ w3 => ?_) fun p hp => S2.fresh hp
    cases w3
    exact ⟨false, rfl, iteF (k _ _ W2 ρ2 H3 hd2 (sub_tr s2 s1) ((ext_tr e1 e2 s1).trans (Ext.same sm)) (S2.same sm) (.bl false))⟩
  · exact hd2.elim
theorem tchain_ok {r r' : R2} {f g : D2} (hr : R2Ok X.K r f) (hr' : R2Ok X.K r' g) (ha : DEx X EX a da) (hb : DEx X EX b db) (hc : DEx X EX c dc) (mk : ∀ ta tb tc, PE X a ta → PE X b tb → PE X c tc → PT X e (tTest (tChain r r' ta tb tc))) : DTx X EX e (dTChain f g da db dc) := by
  obtain ⟨ta, pa, qa⟩ := ha.ex
  obtain ⟨tb, pb, qb⟩ := hb.ex
  obtain ⟨tc, pc, qc⟩ := hc.ex
  refine ⟨_, mk ta tb tc pa pb pc, fun s H0 W0 W σ ρ H R Er Q S eo hd k => ?_⟩
  refine qa s H0 W0 W σ ρ H _ Er _ S eo hd fun v d W1 ρ1 H1 hd1 s1 e1 S1 w1 => ?_
  refine qb s H0 W0 W1 σ ρ1 H1 _ Er _ S1 eo hd1 fun u e W2 ρ2 H2 hd2 s2 e2 S2 w2 => ?_
  have w1' : Dw X.K H2 W2 v d := w1.to e2 s2
  split at hd2
  · rename_i hz
    refine hr H2 W2 v u d e _ _ w1' w2 hz (fun y H3 sm _ w3 => ?_) fun p hp => S2.fresh hp
    cases w3
    refine ⟨true, rfl, iteT ?_⟩
    refine qc s H0 W0 W2 σ ρ2 H3 _ Er _ (S2.same sm) eo hd2 fun x z W4 ρ4 H4 hd4 s4 e4 S4 w4 => ?_
    have w2' : Dw X.K H4 W4 u e := (w2.to (Ext.same sm) fun _ z => z).to e4 s4
    split at hd4
    · rename_i kk hrr
      refine hr' H4 W4 u x e z _ _ w2' w4 hrr (fun y H5 sm5 _ w5 => ?_) fun p hp => S4.fresh hp
      cases w5
      exact ⟨kk, rfl, k kk W4 ρ4 H5 hd4 (sub_tr s4 (sub_tr s2 s1)) ((ext_tr ((ext_tr e1 e2 s1).trans (Ext.same sm)) e4 (sub_tr s2 s1)).trans (Ext.same sm5)) (S4.same sm5)⟩
    · exact hd4.elim
  · rename_i hz
    refine hr H2 W2 v u d e _ _ w1' w2 hz (fun y H3 sm _ w3 => ?_) fun p hp => S2.fresh hp
    cases w3
    exact ⟨false, rfl, iteF ⟨false, rfl, k _ W2 ρ2 H3 hd2 (sub_tr s2 s1) ((ext_tr e1 e2 s1).trans (Ext.same sm)) (S2.same sm)⟩⟩
  · exact hd2.elim
theorem de_lele (ha : DEx X EX a da) (hb : DEx X EX b db) (hc : DEx X EX c dc) (hm : lastMarks [CmpOp.LtE, CmpOp.LtE] [b, c] = false := by with_unfolding_all rfl) : DEx X EX (.Compare a [.LtE, .LtE] [b, c] pos) (dChain fLe fLe da db dc) := chain_ok r2_bool r2_bool ha hb hc fun _ _ _ p q r => pe_chain op_le op_le p q r hm
theorem dt_lele (ha : DEx X EX a da) (hb : DEx X EX b db) (hc : DEx X EX c dc) (hm : lastMarks [CmpOp.LtE, CmpOp.LtE] [b, c] = false := by with_unfolding_all rfl) : DTx X EX (.Compare a [.LtE, .LtE] [b, c] pos) (dTChain fLe fLe da db dc) := tchain_ok r2_bool r2_bool ha hb hc fun _ _ _ p q r => pt_chain op_le op_le p q r hm
end
end DD

/-! Subscripts, slices, displays, calls of what is built in. -/
namespace DD
open PySem L2
section
variable {X : Cx} {EX : XK} {a b c e : Expr} {da db dc : DE} {pos : Pos}
/-! ### subscripts -/
def fIx : D2
  | .list xs, .int i => atI xs i
  | .tuple xs, .int i => atI xs i
  | _, _ => none
theorem atI_dw {K : Fg} {H : Hp} {W : List Addr} {xs : List V} {ds : List PyData} {i : Int} {d : PyData} (q : DwA K H W xs ds) (h : atI ds i = some d) : ∃ v, atI xs i = some v ∧ Dw K H W v d := by
  unfold atI at h ⊢
  rw [q.length]
  cases e : ixN ds.length i with
  | none => rw [e] at h; cases h
  | some j =>
    rw [e] at h
    obtain ⟨v, h1, h2⟩ := q.get (show ds[j]? = some d from h)
    exact ⟨v, h1, h2⟩
theorem r2_ix {K : Fg} : R2Ok K (rIx K) fIx := by
  intro H W x y d e z Q hx hy hz k fr
  unfold fIx at hz
  split at hz
  · obtain ⟨a, rfl⟩ := hx.lstV
    obtain ⟨xs, h1, q⟩ := hx.sqL
    cases hy
    obtain ⟨v, h2, h3⟩ := atI_dw q hz
    exact .inl ⟨a, xs, _, v, rfl, rfl, h1, h2, k v H (Same.refl H) fr h3⟩
  · obtain ⟨a, rfl⟩ := hx.tupV
    obtain ⟨xs, h1, q⟩ := hx.sqT
    cases hy
    obtain ⟨v, h2, h3⟩ := atI_dw q hz
    exact .inr (.inl ⟨a, xs, _, v, rfl, rfl, h1, h2, k v H (Same.refl H) fr h3⟩)
  · cases hz
theorem de_ix (ha : DEx X EX a da) (hb : DEx X EX b db) (hs : PlainIx b := by exact fun _ _ => rfl) : DEx X EX (.Subscript a b pos) (dOp fIx da db) := op_ok r2_ix ha hb fun _ _ p q => pe_ix ix_seq p q hs
/-! ### slices -/
abbrev DP := Env' → (Option Int → Env' → Prop) → Er' → Prop
structure DPx (X : Cx) (EX : XK) (e : Option Expr) (dt : DP) : Prop where
  ex : ∃ t, PO X e t ∧ ∀ (s : Option Addr) (H0 : Hp) (W0 W : List Addr) (σ : St) (ρ : Env') (H : Hp) (R : Option Int → Env' → Prop) (Er : Er') (Q : Option Int → Hp → Prop), SOk X.K H0 W0 s W σ ρ H → ErOk X.K H0 W0 s EX Er → dt ρ R Er →
    (∀ (o : Option Int) (W' : List Addr) (ρ' : Env') (H' : Hp), R o ρ' → (∀ x ∈ W', x ∈ W) → Ext W H H' → SOk X.K H0 W0 s W' σ ρ' H' → Q o H') → t σ H Q
def dNoPart : DP := fun ρ R _ => R none ρ
def dPart (a : DE) : DP := fun ρ R Er => a ρ (fun d ρ1 => match d with | .int i => R (some i) ρ1 | _ => False) Er
theorem dp_none : DPx X EX none dNoPart := ⟨_, po_none, fun s H0 W0 W σ ρ H R Er Q S eo hd k => k none W ρ H hd (fun _ z => z) (Ext.refl _ _) S⟩
theorem dp_some (ha : DEx X EX a da) : DPx X EX (some a) (dPart da) := by
  obtain ⟨t, p, q⟩ := ha.ex
  refine ⟨_, po_some p, fun s H0 W0 W σ ρ H R Er Q S eo hd k => ?_⟩
  refine q s H0 W0 W σ ρ H _ Er _ S eo hd fun v d W1 ρ1 H1 hd1 s1 e1 S1 w1 => ?_
  split at hd1
  · cases w1
    exact ⟨_, rfl, k _ W1 ρ1 H1 hd1 s1 e1 S1⟩
  · exact hd1.elim
def cutD (xs : List PyData) (lo hi : Option Int) : List PyData := (xs.drop (HT.sIx xs.length 0 lo)).take (HT.sIx xs.length xs.length hi - HT.sIx xs.length 0 lo)
theorem cut_dw {K : Fg} {H : Hp} {W : List Addr} {xs : List V} {ds : List PyData} (q : DwA K H W xs ds) (lo hi : Option Int) : DwA K H W (cutV xs lo hi) (cutD ds lo hi) := by
  unfold cutV cutD
  rw [q.length]
  exact (q.drop _).take _
theorem cut_whole {xs : List PyData} {lo hi : Option Int} (h : HT.sIx xs.length 0 lo = 0 ∧ HT.sIx xs.length xs.length hi = xs.length) : cutD xs lo hi = xs := by
  unfold cutD
  rw [h.1, h.2]
  simp
def fSl (d : PyData) (lo hi : Option Int) : Option PyData :=
  match d with
  | .list xs => some (.list (cutD xs lo hi))
  | .tuple xs => some (.tuple (cutD xs lo hi))
  | _ => none
def dSl (a : DE) (l u : DP) : DE := fun ρ R Er => a ρ (fun d ρ1 => l ρ1 (fun lo ρ2 => u ρ2 (fun hi ρ3 => match fSl d lo hi with
  | some z => R z ρ3
  | none => False) Er) Er) Er
theorem de_sl {lo hi : Option Expr} {dl dh : DP} {p2} (ha : DEx X EX a da) (hl : DPx X EX lo dl) (hh : DPx X EX hi dh) : DEx X EX (.Subscript a (.Slice lo hi none p2) pos) (dSl da dl dh) := by
  obtain ⟨t, p, q⟩ := ha.ex
  obtain ⟨tl, pl, ql⟩ := hl.ex
  obtain ⟨th, ph, qh⟩ := hh.ex
  refine ⟨_, pe_slice (sl_list.or sl_tupA) p pl ph, fun s H0 W0 W σ ρ H R Er Q S eo hd k => ?_⟩
  refine q s H0 W0 W σ ρ H _ Er _ S eo hd fun v d W1 ρ1 H1 hd1 s1 e1 S1 w1 => ?_
  refine ql s H0 W0 W1 σ ρ1 H1 _ Er _ S1 eo hd1 fun l W2 ρ2 H2 hd2 s2 e2 S2 => ?_
  refine qh s H0 W0 W2 σ ρ2 H2 _ Er _ S2 eo hd2 fun u W3 ρ3 H3 hd3 s3 e3 S3 => ?_
  have w3 : Dw X.K H3 W3 v d := (w1.to e2 s2).to e3 s3
  have ss := sub_tr s3 (sub_tr s2 s1)
  have ee := ext_tr (ext_tr e1 e2 s1) e3 (sub_tr s2 s1)
  unfold fSl at hd3
  cases d with
  | list xs =>
    obtain ⟨a, rfl⟩ := w3.lstV
    obtain ⟨us, h1, q1⟩ := w3.sqL
    exact .inl ⟨a, us, rfl, h1, fun p hp => k _ _ W3 ρ3 _ hd3 ss (ee.trans (Ext.same (same_upd hp))) (S3.alloc hp) (Dw.newLst hp (S3.fresh hp) (cut_dw q1 l u))⟩
  | tuple xs =>
    obtain ⟨a, rfl⟩ := w3.tupV
    have w0 := w3
    obtain ⟨us, h1, q1⟩ := w3.sqT
    refine .inr ⟨a, us, rfl, h1, fun hw => ?_, fun _ p hp => k _ _ W3 ρ3 _ hd3 ss (ee.trans (Ext.same (same_upd hp))) (S3.alloc hp) (Dw.newTup hp (S3.fresh hp) (cut_dw q1 l u))⟩
    rw [q1.length] at hw
    exact k _ _ W3 ρ3 H3 hd3 ss ee S3 (by rw [cut_whole hw]; exact w0)
  | _ => exact hd3.elim
/-! ### argument lists, displays -/
def dNil : DA := fun ρ R _ => R [] ρ
def dCons (a : DE) (r : DA) : DA := fun ρ R Er => a ρ (fun d ρ1 => r ρ1 (fun ds ρ2 => R (d :: ds) ρ2) Er) Er
theorem da_nil : DAx X EX [] dNil := ⟨_, pa_nil, fun s H0 W0 W σ ρ H R Er Q S eo hd k => k [] [] W ρ H hd (fun _ z => z) (Ext.refl _ _) S .nil⟩
theorem da_cons {es : List Expr} {dr : DA} (ha : DEx X EX a da) (hr : DAx X EX es dr) (hs : starEach (a :: es) X.env = (false, eval a X.env) :: starEach es X.env := by rfl) : DAx X EX (a :: es) (dCons da dr) := by
  obtain ⟨t, p, q⟩ := ha.ex
  obtain ⟨t2, p2, q2⟩ := hr.ex
  refine ⟨_, pa_cons p p2 hs, fun s H0 W0 W σ ρ H R Er Q S eo hd k => ?_⟩
  refine q s H0 W0 W σ ρ H _ Er _ S eo hd fun v d W1 ρ1 H1 hd1 s1 e1 S1 w1 => ?_
  refine q2 s H0 W0 W1 σ ρ1 H1 _ Er _ S1 eo hd1 fun vs ds W2 ρ2 H2 hd2 s2 e2 S2 w2 => ?_
  exact k _ _ W2 ρ2 H2 hd2 (sub_tr s2 s1) (ext_tr e1 e2 s1) S2 (.cons (w1.to e2 s2) w2)
def dTup (r : DA) : DE := fun ρ R Er => r ρ (fun ds ρ1 => ds.length ≤ big ∧ R (.tuple ds) ρ1) Er
def dLst (r : DA) : DE := fun ρ R Er => r ρ (fun ds ρ1 => ds.length ≤ big ∧ R (.list ds) ρ1) Er
theorem de_tup {es : List Expr} {dr : DA} {x1} (hr : DAx X EX es dr) : DEx X EX (.Tuple es x1 pos) (dTup dr) := by
  obtain ⟨t, p, q⟩ := hr.ex
  refine ⟨_, pe_tup p, fun s H0 W0 W σ ρ H R Er Q S eo hd k => ?_⟩
  refine q s H0 W0 W σ ρ H _ Er _ S eo hd fun vs ds W1 ρ1 H1 hd1 s1 e1 S1 w1 => ⟨big_le (by rw [w1.length]; exact hd1.1), fun p hp => ?_⟩
  exact k _ _ W1 ρ1 _ hd1.2 s1 (e1.trans (Ext.same (same_upd hp))) (S1.alloc hp) (Dw.newTup hp (S1.fresh hp) w1)
theorem de_lst {es : List Expr} {dr : DA} (hr : DAx X EX es dr) : DEx X EX (.List es pos) (dLst dr) := by
  obtain ⟨t, p, q⟩ := hr.ex
  refine ⟨_, pe_lst p, fun s H0 W0 W σ ρ H R Er Q S eo hd k => ?_⟩
  refine q s H0 W0 W σ ρ H _ Er _ S eo hd fun vs ds W1 ρ1 H1 hd1 s1 e1 S1 w1 => ⟨big_le (by rw [w1.length]; exact hd1.1), fun p hp => ?_⟩
  exact k _ _ W1 ρ1 _ hd1.2 s1 (e1.trans (Ext.same (same_upd hp))) (S1.alloc hp) (Dw.newLst hp (S1.fresh hp) w1)
/-- {} -/
theorem de_dnew {pos} : DEx X EX (.Dict [] [] pos) (dC (.dict [])) :=
  ⟨_, pe_dnewK, fun s H0 W0 W σ ρ H R Er Q S eo hd k => fun p hp => k _ _ W ρ _ hd (fun _ z => z) (Ext.same (same_upd hp)) (S.alloc hp) (.dct (kvs := []) (ds := []) (S.fresh hp) upd_same rfl .nil)⟩
/-! ### calls of what is built in -/
abbrev DF := List PyData → Option PyData
def dCall (f : DF) (r : DA) : DE := fun ρ R Er => r ρ (fun ds ρ1 => match f ds with
  | some z => R z ρ1
  | none => False) Er
def RAOk (K : Fg) (r : List V → Hp → VK → Prop) (f : DF) : Prop := ∀ (H : Hp) (W : List Addr) (vs : List V) (ds : List PyData) (z : PyData) (Q : VK), DwA K H W vs ds → f ds = some z →
  (∀ v H', Same H H' → Dw K H' W v z → Q v H') → (∀ p, H p = none → p ∉ W) → r vs H Q
theorem call_ok {r : List V → Hp → VK → Prop} {f : DF} {es : List Expr} {dr : DA} (hr : RAOk X.K r f) (ha : DAx X EX es dr) (mk : ∀ t, PA X es t → PE X e (tCB r t)) : DEx X EX e (dCall f dr) := by
  obtain ⟨t, p, q⟩ := ha.ex
  refine ⟨_, mk t p, fun s H0 W0 W σ ρ H R Er Q S eo hd k => ?_⟩
  refine q s H0 W0 W σ ρ H _ Er _ S eo hd fun vs ds W1 ρ1 H1 hd1 s1 e1 S1 w1 => ?_
  split at hd1
  · rename_i z hz
    exact hr H1 W1 vs ds z Q w1 hz (fun v H2 sm w2 => k v z W1 ρ1 H2 hd1 s1 (e1.trans (Ext.same sm)) (S1.same sm) w2) fun p hp => S1.fresh hp
  · exact hd1.elim
def fLen : DF
  | [.list xs] => some (.int xs.length)
  | [.tuple xs] => some (.int xs.length)
  | _ => none
theorem ra_len {K : Fg} : RAOk K (fun xs H Q => ∃ p ys, xs = [.ref p] ∧ (SqL K H p ys ∨ SqT K H p ys) ∧ Q (.int ys.length) H) fLen := by
  intro H W vs ds z Q hq hz k fr
  unfold fLen at hz
  split at hz
  · cases hz
    cases hq with
    | cons h1 h2 =>
      cases h2
      obtain ⟨a, rfl⟩ := h1.lstV
      obtain ⟨xs, e1, q1⟩ := h1.sqL
      exact ⟨a, xs, rfl, .inl e1, by rw [q1.length]; exact k _ H (Same.refl H) (.int _)⟩
  · cases hz
    cases hq with
    | cons h1 h2 =>
      cases h2
      obtain ⟨a, rfl⟩ := h1.tupV
      obtain ⟨xs, e1, q1⟩ := h1.sqT
      exact ⟨a, xs, rfl, .inr e1, by rw [q1.length]; exact k _ H (Same.refl H) (.int _)⟩
  · cases hz
def fMax2 : DF
  | [.int i, .int j] => some (.int (if j > i then j else i))
  | _ => none
def fMin2 : DF
  | [.int i, .int j] => some (.int (if j < i then j else i))
  | _ => none
theorem ra_max2 {K : Fg} : RAOk K (fun xs H Q => ∃ i j, xs = [.int i, .int j] ∧ Q (.int (if j > i then j else i)) H) fMax2 := by
  intro H W vs ds z Q hq hz k fr
  unfold fMax2 at hz
  split at hz
  · cases hz
    cases hq with
    | cons h1 h2 => cases h2 with
      | cons h3 h4 => cases h4; cases h1; cases h3; exact ⟨_, _, rfl, k _ H (Same.refl H) (.int _)⟩
  · cases hz
theorem ra_min2 {K : Fg} : RAOk K (fun xs H Q => ∃ i j, xs = [.int i, .int j] ∧ Q (.int (if j < i then j else i)) H) fMin2 := by
  intro H W vs ds z Q hq hz k fr
  unfold fMin2 at hz
  split at hz
  · cases hz
    cases hq with
    | cons h1 h2 => cases h2 with
      | cons h3 h4 => cases h4; cases h1; cases h3; exact ⟨_, _, rfl, k _ H (Same.refl H) (.int _)⟩
  · cases hz
def fInt : DF
  | [.int i] => some (.int i)
  | [.bool k] => some (.int (if k then 1 else 0))
  | _ => none
theorem ra_int {K : Fg} : RAOk K (fun xs H Q => (∃ i, xs = [.int i] ∧ Q (.int i) H) ∨ ∃ k, xs = [.bl k] ∧ Q (.int (if k then 1 else 0)) H) fInt := by
  intro H W vs ds z Q hq hz k fr
  unfold fInt at hz
  split at hz
  · cases hz
    cases hq with
    | cons h1 h2 => cases h2; cases h1; exact .inl ⟨_, rfl, k _ H (Same.refl H) (.int _)⟩
  · cases hz
    cases hq with
    | cons h1 h2 => cases h2; cases h1; exact .inr ⟨_, rfl, k _ H (Same.refl H) (.int _)⟩
  · cases hz
def fListOf : DF
  | [.list xs] => some (.list xs)
  | [.tuple xs] => some (.list xs)
  | _ => none
theorem ra_listOf {K : Fg} : RAOk K (fun xs H Q => ∃ p ys, xs = [.ref p] ∧ (SqL K H p ys ∨ SqT K H p ys) ∧ ∀ l, H l = none → Q (.ref l) (upd H l (.lst ys))) fListOf := by
  intro H W vs ds z Q hq hz k fr
  unfold fListOf at hz
  split at hz
  · cases hz
    cases hq with
    | cons h1 h2 =>
      cases h2
      obtain ⟨a, rfl⟩ := h1.lstV
      obtain ⟨xs, e1, q1⟩ := h1.sqL
      exact ⟨a, xs, rfl, .inl e1, fun p hp => k _ _ (same_upd hp) (Dw.newLst hp (fr p hp) q1)⟩
  · cases hz
    cases hq with
    | cons h1 h2 =>
      cases h2
      obtain ⟨a, rfl⟩ := h1.tupV
      obtain ⟨xs, e1, q1⟩ := h1.sqT
      exact ⟨a, xs, rfl, .inr e1, fun p hp => k _ _ (same_upd hp) (Dw.newLst hp (fr p hp) q1)⟩
  · cases hz
def fTupOf : DF
  | [.list xs] => some (.tuple xs)
  | [.tuple xs] => some (.tuple xs)
  | _ => none
theorem ra_tupOf {K : Fg} : RAOk K (fun xs H Q => ∃ p ys, xs = [.ref p] ∧ ((SqL K H p ys ∧ ∀ l, H l = none → Q (.ref l) (upd H l (.tup ys))) ∨ (SqT K H p ys ∧ Q (.ref p) H))) fTupOf := by
  intro H W vs ds z Q hq hz k fr
  unfold fTupOf at hz
  split at hz
  · cases hz
    cases hq with
    | cons h1 h2 =>
      cases h2
      obtain ⟨a, rfl⟩ := h1.lstV
      obtain ⟨xs, e1, q1⟩ := h1.sqL
      exact ⟨a, xs, rfl, .inl ⟨e1, fun p hp => k _ _ (same_upd hp) (Dw.newTup hp (fr p hp) q1)⟩⟩
  · cases hz
    cases hq with
    | cons h1 h2 =>
      cases h2
      obtain ⟨a, rfl⟩ := h1.tupV
      have h0 := h1
      obtain ⟨xs, e1, q1⟩ := h1.sqT
      exact ⟨a, xs, rfl, .inr ⟨e1, k _ H (Same.refl H) h0⟩⟩
  · cases hz
/-- a list of bools -/
def boolsD : List PyData → Option (List Bool)
  | [] => some []
  | .bool b :: r => (boolsD r).map (b :: ·)
  | _ :: _ => none
theorem bools_dw {K : Fg} {H : Hp} {W : List Addr} : ∀ {xs : List V} {ds : List PyData} {bs : List Bool}, DwA K H W xs ds → boolsD ds = some bs → xs = bs.map V.bl
  | _, _, bs, .nil, h => by cases h; rfl
  | _, _, bs, .cons (d := d) (ds := r) a q, h => by
    cases d with
    | bool b =>
      cases a
      simp only [boolsD, Option.map_eq_some_iff] at h
      obtain ⟨cs, h1, rfl⟩ := h
      rw [bools_dw q h1]
      rfl
    | _ => cases h
def fAll : DF
  | [.list xs] => (boolsD xs).map fun bs => .bool (bs.all id)
  | _ => none
def fAny : DF
  | [.list xs] => (boolsD xs).map fun bs => .bool (bs.any id)
  | _ => none
theorem ra_all {K : Fg} : RAOk K (rAll K) fAll := by
  intro H W vs ds z Q hq hz k fr
  unfold fAll at hz
  split at hz
  · simp only [Option.map_eq_some_iff] at hz
    obtain ⟨bs, h, rfl⟩ := hz
    cases hq with
    | cons h1 h2 =>
      cases h2
      obtain ⟨a, rfl⟩ := h1.lstV
      obtain ⟨xs, e1, q1⟩ := h1.sqL
      rw [bools_dw q1 h] at e1
      exact ⟨a, bs, rfl, e1, k _ H (Same.refl H) (.bl _)⟩
  · cases hz
theorem ra_any {K : Fg} : RAOk K (rAny K) fAny := by
  intro H W vs ds z Q hq hz k fr
  unfold fAny at hz
  split at hz
  · simp only [Option.map_eq_some_iff] at hz
    obtain ⟨bs, h, rfl⟩ := hz
    cases hq with
    | cons h1 h2 =>
      cases h2
      obtain ⟨a, rfl⟩ := h1.lstV
      obtain ⟨xs, e1, q1⟩ := h1.sqL
      rw [bools_dw q1 h] at e1
      exact ⟨a, bs, rfl, e1, k _ H (Same.refl H) (.bl _)⟩
  · cases hz
end
end DD

/-! repr, isinstance. -/
namespace DD
open PySem L2
/-! ### how long a text of data is at most -/
mutual
def sz : PyData → Nat
  | .none => 10
  | .bool _ => 10
  | .int _ => 2000
  | .str x => if (x.cps.toList.all fun c => decide (c < 4294967296)) = true then 10 * x.length + 10 else 100000000
  | .list xs => szA xs + 10
  | .tuple xs => szA xs + 10
  | .dict kvs => szK kvs + 10
def szA : List PyData → Nat
  | [] => 0
  | x :: xs => sz x + 2 + szA xs
def szK : List (PyData × PyData) → Nat
  | [] => 0
  | (k, v) :: r => sz k + sz v + 4 + szK r
end
theorem int_len {i : Int} (h : i.natAbs.log2 < 1920) : (PyData.shown (.int i)).length ≤ 2000 := by
  have e := int_text_length_le (k := 1920) (by decide) h
  have e2 : (PyData.shown (.int i)).length = (toString i).length := ofString_length _
  omega
theorem sz_str (x : Str) (h : sz (.str x) < 100000000) : (PyData.shown (.str x)).length ≤ sz (.str x) := by
  unfold sz at h ⊢
  split at h
  · rename_i hc
    rw [if_pos hc]
    have hx : ∀ c ∈ x.cps.toList, c < 16 ^ 8 := by
      intro c hcc
      have := List.all_eq_true.mp hc c hcc
      have := of_decide_eq_true this
      omega
    have := StrLaws.reprText_len x hx
    simp only [PyData.shown]
    omega
  · omega
mutual
theorem shown_sz : ∀ d : PyData, d.showable = true → sz d < 100000000 → d.shown.length ≤ sz d
  | .none, _, _ => by decide
  | .bool b, _, _ => by cases b <;> decide
  | .int i, h, _ => by
    have h' : i.natAbs.log2 < 1920 := by simpa only [PyData.showable, decide_eq_true_eq] using h
    have := int_len h'
    simpa only [sz] using this
  | .str x, _, h => sz_str x h
  | .list xs, h, hz => by
    simp only [sz] at hz ⊢
    have h1 := shownAll_sz xs (by simpa only [PyData.showable] using h) (by omega)
    have h2 := listText_len_le (PyData.shownAll xs)
    have h3 := PyData.shownAll_length xs
    simp only [PyData.shown]
    omega
  | .tuple xs, h, hz => by
    simp only [sz] at hz ⊢
    have h1 := shownAll_sz xs (by simpa only [PyData.showable] using h) (by omega)
    have h2 := tupleText_len_le (PyData.shownAll xs)
    have h3 := PyData.shownAll_length xs
    simp only [PyData.shown]
    omega
  | .dict kvs, h, hz => by
    simp only [sz] at hz ⊢
    have h1 := shownKv_sz kvs (by simpa only [PyData.showable] using h) (by omega)
    have h2 := dictText_len_le (PyData.shownKv kvs)
    have h3 := PyData.shownKv_length kvs
    simp only [PyData.shown]
    omega
theorem shownAll_sz : ∀ xs : List PyData, PyData.showableAll xs = true → szA xs < 100000000 → ((PyData.shownAll xs).map (·.length)).sum + 2 * xs.length ≤ szA xs
  | [], _, _ => by simp only [PyData.shownAll, szA, List.map_nil, List.sum_nil, List.length_nil]; omega
  | x :: xs, h, hz => by
    simp only [szA] at hz ⊢
    have h' : x.showable = true ∧ PyData.showableAll xs = true := by simpa only [PyData.showableAll, Bool.and_eq_true] using h
    have h1 := shown_sz x h'.1 (by omega)
    have h2 := shownAll_sz xs h'.2 (by omega)
    simp only [PyData.shownAll, List.map_cons, List.sum_cons, List.length_cons]
    omega
theorem shownKv_sz : ∀ kvs : List (PyData × PyData), PyData.showableKv kvs = true → szK kvs < 100000000 → ((PyData.shownKv kvs).map (·.length)).sum + 2 * kvs.length ≤ szK kvs
  | [], _, _ => by simp only [PyData.shownKv, szK, List.map_nil, List.sum_nil, List.length_nil]; omega
  | (k, v) :: r, h, hz => by
    simp only [szK] at hz ⊢
    have h' : (k.showable = true ∧ v.showable = true) ∧ PyData.showableKv r = true := by simpa only [PyData.showableKv, Bool.and_eq_true] using h
    have h1 := shown_sz k h'.1.1 (by omega)
    have h2 := shown_sz v h'.1.2 (by omega)
    have h3 := shownKv_sz r h'.2 (by omega)
    have e2 : (k.shown ++ ": " ++ v.shown).length = k.shown.length + 2 + v.shown.length := by
      rw [strLen_append, strLen_append]; rfl
    simp only [PyData.shownKv, List.map_cons, List.sum_cons, List.length_cons]
    omega
end
/-- data that repr may be asked of -/
def rOk (d : PyData) : Bool := d.showable && decide (d.depth ≤ 60) && decide (sz d ≤ 16777216) && !d.hasDict
def fRepr : DF
  | [d] => if rOk d then some (.str d.shown) else match d with
    | .dict [] => some (.str d.shown)
    | _ => none
  | _ => none
section
variable {X : Cx}
def rRepr (K : Fg) : List V → Hp → VK → Prop := fun vs H Q => ∃ (v : V) (d : PyData) (W : List Addr), vs = [v] ∧ Dw K H W v d ∧ (rOk d = true ∨ d = .dict []) ∧ Q (.str d.shown) H
theorem call_reprD (hg : X.A.guards = some []) (hu : X.A.units + 64 < cLine) : CallR X (.builtin "repr") (rRepr X.K) := by
  intro pins s σ H vs us Q I r h
  obtain ⟨v, d, W, rfl, hd, ho, q⟩ := h
  obtain ⟨u, rfl, rv⟩ := vals1 r
  rcases ho with ho | rfl
  · unfold rOk at ho
    simp only [Bool.and_eq_true, Bool.not_eq_true', decide_eq_true_eq] at ho
    obtain ⟨⟨⟨h1, h2⟩, h3⟩, h4⟩ := ho
    have hl : d.shown.length ≤ sizeLine := Nat.le_trans (shown_sz d h1 (by omega)) (by rw [sizeLine_eq]; exact h3)
    obtain ⟨as, rd⟩ := Dw.reads I d v u h4 hd rv
    have big : ∀ a, u = .ref a → wpAny (model X.prog X.w) X.A (call (.builtin "repr") [u]) (EP X pins σ Q) X.xe s := fun a e => by
      subst e
      exact repr_of_reads' rd h1 (PyData.noDict_hsm h4) hg (by omega) (fun _ _ e => e) (fun h' u' tk hk => ⟨.str d.shown, H, I.kept hk, ⟨_, rfl⟩, q⟩) hl
    cases hd with
    | non => cases rv; exact P.repr_of_none ⟨.str _, H, I.tok _, ⟨_, rfl⟩, q⟩
    | bl b =>
      cases rv
      refine P.repr_of_bool ⟨.str _, H, I.tok _, ⟨_, rfl⟩, ?_⟩
      cases b <;> exact q
    | int i =>
      obtain ⟨t, rfl⟩ := rv
      have h' : i.natAbs.log2 < 1920 := by simpa only [PyData.showable, decide_eq_true_eq] using h1
      exact P.repr_of_int h' ⟨.str _, H, I.tok _, ⟨_, rfl⟩, q⟩
    | str x =>
      obtain ⟨t, rfl⟩ := rv
      exact P.repr_of_str ⟨.str _, H, I.tok _, ⟨_, rfl⟩, q⟩ (by simpa only [PyData.shown] using hl)
    | lst n r q => cases rv; exact big _ rfl
    | tup n r q => cases rv; exact big _ rfl
    | ktup n q => cases rv; exact big _ rfl
    | dct n r k q => cases rv; exact big _ rfl
  · cases hd with
    | dct n hr hk hq =>
      rename_i a kvs
      cases rv
      have e0 : kvs = [] := by
        cases kvs with
        | nil => rfl
        | cons x y => simp at hk
      subst e0
      obtain ⟨_, hS, vs, kv, o, es, ep, ho, hx, hdat, _, hpr, _⟩ := I.hok a _ hr
      cases kv
      have e1 : es.toList = [] := by
        generalize es.toList = l at hpr
        cases hpr
        rfl
      have rd : Reads s.heap (.ref a) (.dict []) ([a] ++ []) := by
        refine Reads.dict (es := es) (n := ep) ho hx.1 hdat ?_ ?_
        · rw [e1]; exact ReadsAll.nil
        · rw [e1]; exact ReadsAll.nil
      refine repr_of_reads' rd (by simp [PyData.showable, PyData.showableKv]) (fun _ => ?_) hg ?_ (fun _ _ e => e) (fun h' u' tk hk => ⟨.str _, H, I.kept hk, ⟨_, rfl⟩, q⟩) ?_
      · simp
        intro e
        rw [← e] at hS
        simp at hS
      · simp only [PyData.depth, PyData.depthKv]; omega
      · decide
theorem ra_repr {K : Fg} : RAOk K (rRepr K) fRepr := by
  intro H W vs ds z Q hq hz k fr
  unfold fRepr at hz
  split at hz
  · rename_i d
    cases hq with
    | cons h1 h2 =>
      cases h2
      split at hz
      · rename_i ho
        cases hz
        exact ⟨_, d, W, rfl, h1, .inl ho, k _ H (Same.refl H) (.str _)⟩
      · split at hz
        · cases hz
          exact ⟨_, _, W, rfl, h1, .inr rfl, k _ H (Same.refl H) (.str _)⟩
        · cases hz
  · cases hz
/-! ### isinstance(x, T), T one built-in class -/
def tyD : PyData → String
  | .none => "NoneType"
  | .bool _ => "bool"
  | .int _ => "int"
  | .str _ => "str"
  | .list _ => "list"
  | .tuple _ => "tuple"
  | .dict _ => "dict"
theorem dw_ty {K : Fg} {H : Hp} {W : List Addr} {v : V} {d : PyData} (h : Dw K H W v d) : TyX K H v (.type (tyD d)) := by
  cases h with
  | non => exact .base .non
  | bl b => exact .base (.bl b)
  | int i => exact .base (.int i)
  | str x => exact .base (.str x)
  | lst n r q => exact .base (.lst r)
  | tup n r q => exact .base (.tup r)
  | ktup k q =>
    obtain ⟨o, its, n, h1, h2, _⟩ := k
    exact .kTuple h1 h2
  | dct n r k q => exact .base (.dK r)
def isiD (c : String) (d : PyData) : Bool := match d with
  | .bool _ => c == "bool" || c == "int"
  | d => c == tyD d
theorem kit_isi (c : String) (d : PyData) (h : c = "int" ∨ c = "bool" ∨ c = "tuple" ∨ c = "list" ∨ c = "str" ∨ c = "dict") : kitB (tyD d) c = some (isiD c d) := by
  rcases h with rfl | rfl | rfl | rfl | rfl | rfl <;> cases d <;> simp only [tyD, isiD] <;> decide +kernel
def dIsi (c : String) (a : DE) : DE := fun ρ R Er => a ρ (fun d ρ1 => R (.bool (isiD c d)) ρ1) Er
theorem de_isi {EX : XK} {c : String} {a : Expr} {da : DE} {cx : Str} {p p2 pos : Pos} (hc : c = "int" ∨ c = "bool" ∨ c = "tuple" ∨ c = "list" ∨ c = "str" ∨ c = "dict") (hg : Gl X "isinstance") (hm : X.mg "isinstance" = none)
    (hg2 : Gl X cx) (hm2 : X.mg cx = none) (hv : bootBuiltins cx = some (.type c)) (ha : DEx X EX a da)
    (hn : cx ≠ "__name__" := by decide) (hd : (cx == ("__debug__" : Str)) = false := by decide)
    (s1 : starEach [a, .Name cx p2] X.env = (false, eval a X.env) :: starEach [.Name cx p2] X.env := by rfl) (s2 : starEach [.Name cx p2] X.env = (false, eval (.Name cx p2) X.env) :: starEach [] X.env := by rfl)
    (hpl : (backTo pos (starEach [.Name cx p2] X.env)).any (·.1) = false := by rfl) :
    DEx X EX (.Call (.Name "isinstance" p) [a, .Name cx p2] [] pos) (dIsi c da) := by
  obtain ⟨t, pa, q⟩ := ha.ex
  refine ⟨_, pe_callB call_isi hg hm PyProof.Rows.boot_isinstance (pa_cons pa (pa_cons (pe_bltn (v := .ty c) hg2 hm2 hv rfl hn hd) pa_nil s2) s1) (he := s1) (hpl := hpl), fun s H0 W0 W σ ρ H R Er Q S eo hd k => ?_⟩
  refine q s H0 W0 W σ ρ H _ Er _ S eo hd fun v d W1 ρ1 H1 hd1 s1 e1 S1 w1 => ?_
  exact ⟨v, .ty c, .type (tyD d), .type c, isiD c d, rfl, .ty c, dw_ty w1, kit_ty (kit_isi c d hc), k _ _ W1 ρ1 H1 hd1 s1 e1 S1 (.bl _)⟩
end
end DD

/-! Defs: what they promise, over data; how they are called. -/
namespace DD
open PySem L2 PyProof.Rows
/-- as FnOk, where no repr runs around -/
structure FnG (P : Program) (w : World) (K : Fg) (mg : Str → Option Value) (base : Heap) (CX : CXT) (k : Nat) (f : Addr) (fd : FuncData) (ps : List Str) (sp : Sp) : Prop where
  len : ∀ vs H Q E, sp vs H Q E → vs.length = ps.length
  run : ∀ (A : Around) (outer : List Env) (s : Shared) (H : Hp) (args : Args) (us : List Value) (vs : List V) (Q : VK) (E : XK), Room k A → A.guards = some [] → Env0 P w K mg base A outer s H →
    BindsTo s fd args (ps.zip us) → Vals vs us → sp vs H Q E → codeAny (model P w) A (.call (.ref f) args) (CR CX outer P w H s Q E) s
section
variable {X : Cx} {CX : CXT} {k : Nat} {f : Addr} {fd : FuncData} {ps : List Str} {sp : Sp} {E : XK} {x : Str} {p pos : Pos} {e : Expr} {es : List Expr} {t : TA}
theorem run_g {pins : List (Addr × Obj)} {σ : L2.St} {H : Hp} {s : Shared} {Q : VK} {us : List Value} {vs : List V} (F : FnG X.prog X.w X.K X.mg X.base CX k f fd ps sp) (hr : Room k X.A) (hg : X.A.guards = some []) (hb : Binds X.K fd ps [])
    (hx : Passes CX X E) (I : Inv X pins σ H s) (r : Vals vs us) (h : sp vs H Q E) : wpAny (model X.prog X.w) X.A (call (.ref f) us) (EP X pins σ Q) X.xe s := by
  have hl : (us ++ []).length = ps.length := by
    rw [List.append_nil, ← r.length]
    exact F.len _ _ _ _ h
  have hbd := hb s us I.kIn hl
  rw [List.append_nil] at hbd
  refine wpAny_call (codeAny_mono (F.run X.A X.stack s H ⟨us, []⟩ us vs Q E hr hg I.env0 hbd r h) fun o s' q => ?_)
  rcases o with e | fl
  · exact hx pins σ H s e s' I q
  · cases fl <;> first | exact I.after q | exact q.elim
theorem pe_callG (F : FnG X.prog X.w X.K X.mg X.base CX k f fd ps sp) (hr : Room k X.A) (hgd : X.A.guards = some []) (hg : Gl X x) (hm : X.mg x = some (.ref f)) (hk : PySem.W.keepIn X.K (.ref f) = true) (hb : Binds X.K fd ps [])
    (hx : Passes CX X E) (ha : PA X (e :: es) t) (hdb : (x == ("__debug__" : Str)) = false := by decide)
    (he : starEach (e :: es) X.env = (false, eval e X.env) :: starEach es X.env := by rfl) (hpl : (backTo pos (starEach es X.env)).any (·.1) = false := by rfl) :
    PE X (.Call (.Name x p) (e :: es) [] pos) (tCall sp [] E t) := by
  refine ⟨fun pins s σ H Q I h => wpAny_Call_Name_kw (ld_glob I hg hm ?_ hdb)⟩
  refine PySem.W.callWith_K (h₀ := X.base) I.ok.mod.kin hk (thn (ha.run pos pins s σ H _ I h) fun us s1 q => ?_) he hpl
  obtain ⟨vs, H1, I1, r, q⟩ := q
  rw [List.append_nil] at q
  exact ⟨I1.kIn, run_g F hr hgd hb hx I1 r q⟩
end
/-- a def's body, where no repr runs around -/
theorem fn_g {CX : CXT} {P : Program} {w : World} {K : Fg} {mg : Str → Option Value} {base : Heap} {k : Nat} {f : Addr} {name qual : Str} {params : Arguments} {body : List Stmt} {scope : Scope} {dV kV doc pm cdv ct oc : Value} {an od : Option Addr}
    {osl : Array (Option Value)} {N ps : List Str} {sp : Sp} (lk : K.lookup f = some ⟨oc, od, .func (PySem.W.fnOf name qual params body scope dV kV doc pm an cdv ct), osl⟩) (hcd : PySem.W.codeIn K cdv qual = true) (S : FnScope N ps scope)
    (len : ∀ vs H Q E, sp vs H Q E → vs.length = ps.length)
    (hb : ∀ (A : Around) (outer : List Env) (s : Shared) (H : Hp) (vs : List V) (Q : VK) (E : XK), Room k (A.deeper (envOfC qual scope s.heap.objs.size f cdv)) → A.guards = some [] → sp vs H Q E →
      ∃ t, PSs (cxOf CX P w K mg base N qual scope f cdv A outer s H E) body t ∧ t { nx := fun _ H' => Q .non H', rt := Q } (start N vs) H) :
    FnG P w K mg base CX (k + 1) f (PySem.W.fnOf name qual params body scope dV kV doc pm an cdv ct) ps sp := by
  constructor
  · exact len
  intro A outer s H args us vs Q E hr hgd e0 hbd r hsp
  have KX : K.In s.heap := e0.mod.kin.keeps fun b o e => (e0.bs b o e).1
  have nl : s.heap.NoLimit := e0.mod.nolimit.keeps fun b o e => (e0.bs b o e).1
  obtain ⟨t, ht, hq⟩ := hb A outer s H vs Q E (hr.deeper _) hgd hsp
  refine codeAny_call_function hr.depth (KX _ _ lk) rfl S.co S.gen rfl (PySem.W.codeRec_of KX hcd) (hbd _ _ _ _ (wpAny_newFunctionEnv_cells S.kind (fun y hy => ?_) fun env he s1 x => ?_))
  · rcases S.par y.1 (List.of_mem_zip hy).1 with q | q
    · exact .inl q
    · exact .inr ⟨q, PySem.W.cellsFrom_some _ _ _ (.inl q)⟩
  · subst he
    have I := inv_start (CX := CX) (E := E) S hr.hd e0 (len _ _ _ _ hsp) r x
    refine ⟨nl.keeps x.toInCall.keep, codeAny_func (wpAny_mono (ht.run [] s1 (start N vs) H _ I hq) (fun fl s' hs => ?_) fun e s' hs => hs)⟩
    cases fl with
    | ret u =>
      obtain ⟨v, σ', H', J, rv, q⟩ := hs
      exact ⟨v, H', J.os, J.bare, J.base, J.hok, rv, q⟩
    | next =>
      obtain ⟨σ', H', J, q⟩ := hs
      exact ⟨V.non, H', J.os, J.bare, J.base, J.hok, rfl, q⟩
    | brk => exact hs.elim fun _ z => z.elim fun _ z => (show False from z.2).elim
    | cont => exact hs.elim fun _ z => z.elim fun _ z => (show False from z.2).elim
/-! ### promises over data -/
/-- what a def does with data: a wish of its value, a wish of its errors -/
abbrev PF := List PyData → (PyData → Prop) → Er' → Prop
def Wok (H : Hp) (W : List Addr) : Prop := ∀ a ∈ W, ∃ o, H a = some o
/-- of data alone -/
def spD (K : Fg) (n : Nat) (f : PF) : Sp := fun vs H Q E => vs.length = n ∧ ∃ (W : List Addr) (ds : List PyData) (R : PyData → Prop) (Er : Er'), Wok H W ∧ DwA K H W vs ds ∧ f ds R Er ∧
  (∀ (v : V) (d : PyData) (H' : Hp), R d → Same H H' → Dw K H' W v d → Q v H') ∧ ErOk K H W none E Er
/-- of a source and data -/
def spS (K : Fg) (n : Nat) (f : PF) : Sp := fun vs H Q E => vs.length = n ∧ ∃ (a : Addr) (vs' : List V) (W : List Addr) (ds : List PyData) (R : PyData → Prop) (Er : Er'), vs = .ref a :: vs' ∧ Wok H W ∧ a ∈ W ∧ SrcAt H a ∧ DwA K H W vs' ds ∧ f ds R Er ∧
  (∀ (v : V) (d : PyData) (H' : Hp), R d → (∀ b o, some b ≠ some a → H b = some o → H' b = some o) → SrcAt H' a → Dw K H' W v d → Q v H') ∧ ErOk K H W (some a) E Er
section
variable {X : Cx} {EX : XK} {CX : CXT} {k n : Nat} {f : Addr} {fd : FuncData} {ps : List Str} {fn : PF} {x : Str} {p pos : Pos} {e : Expr} {es : List Expr} {da : DA}
def dFn (fn : PF) (a : DA) : DE := fun ρ R Er => a ρ (fun ds ρ1 => fn ds (fun d => R d ρ1) Er) Er
/-- f(a, ..) of data -/
theorem de_fn (F : FnG X.prog X.w X.K X.mg X.base CX k f fd ps (spD X.K n fn)) (hr : Room k X.A) (hgd : X.A.guards = some []) (hg : Gl X x) (hm : X.mg x = some (.ref f)) (hk : PySem.W.keepIn X.K (.ref f) = true) (hb : Binds X.K fd ps [])
    (hx : Passes CX X EX) (hn : (e :: es).length = n) (ha : DAx X EX (e :: es) da) (hdb : (x == ("__debug__" : Str)) = false := by decide)
    (he : starEach (e :: es) X.env = (false, eval e X.env) :: starEach es X.env := by rfl) (hpl : (backTo pos (starEach es X.env)).any (·.1) = false := by rfl) :
    DEx X EX (.Call (.Name x p) (e :: es) [] pos) (dFn (fun ds R Er => ds.length = n ∧ fn ds R Er) da) := by
  obtain ⟨t, pa, q⟩ := ha.ex
  refine ⟨_, pe_callG F hr hgd hg hm hk hb hx pa hdb he hpl, fun s H0 W0 W σ ρ H R Er Q S eo hd kk => ?_⟩
  refine q s H0 W0 W σ ρ H _ Er _ S eo hd fun vs ds W1 ρ1 H1 hd1 s1 e1 S1 w1 => ?_
  show spD X.K n fn (vs ++ []) H1 Q EX
  rw [List.append_nil]
  refine ⟨by rw [w1.length]; exact hd1.1, W1, ds, _, Er, S1.tr, w1, hd1.2, fun v d H2 hR sm w2 => kk v d W1 ρ1 H2 hR s1 (e1.trans (Ext.same sm)) (S1.same sm) w2, fun C d dd v H2 her fr _ hdd hxd hdw => ?_⟩
  refine eo C d dd v H2 her (fun b o hb hne => fr b o (S1.frame b o hb hne) (fun z => nomatch z)) (fun a ha => (S1.src a ha).2.2.stay fun o h => fr a o h fun z => nomatch z) (S1.fresh0 hdd) hxd (hdw.to (Ext.refl _ _) S1.sub)
/-- f(source, a, ..) -/
def dFnS (i : Nat) (fn : PF) (a : DA) : DE := fun ρ R Er => ρ[i]? = some (some .src) ∧ a ρ (fun ds ρ1 => fn ds (fun d => R d ρ1) Er) Er
theorem de_fnS {i : Nat} {y : Str} {py : Pos} (F : FnG X.prog X.w X.K X.mg X.base CX k f fd ps (spS X.K n fn)) (hr : Room k X.A) (hgd : X.A.guards = some []) (hg : Gl X x) (hm : X.mg x = some (.ref f)) (hk : PySem.W.keepIn X.K (.ref f) = true) (hb : Binds X.K fd ps [])
    (hx : Passes CX X EX) (hv : PE X (.Name y py) (tVar i)) (ha : DAx X EX es da) (hdb : (x == ("__debug__" : Str)) = false := by decide)
    (he : starEach (.Name y py :: es) X.env = (false, eval (.Name y py) X.env) :: starEach es X.env := by rfl) (hpl : (backTo pos (starEach es X.env)).any (·.1) = false := by rfl) :
    DEx X EX (.Call (.Name x p) (.Name y py :: es) [] pos) (dFnS i (fun ds R Er => ds.length + 1 = n ∧ fn ds R Er) da) := by
  obtain ⟨t, pa, q⟩ := ha.ex
  refine ⟨_, pe_callG F hr hgd hg hm hk hb hx (pa_cons hv pa he) hdb he hpl, fun s H0 W0 W σ ρ H R Er Q S eo hd kk => ?_⟩
  obtain ⟨hi, hd⟩ := hd
  obtain ⟨v0, hv0, a, rfl, hs⟩ := S.slot i _ hi
  refine ⟨_, hv0, ?_⟩
  refine q s H0 W0 W σ ρ H _ Er _ S eo hd fun vs ds W1 ρ1 H1 hd1 s1 e1 S1 w1 => ?_
  show spS X.K n fn (.ref a :: vs ++ []) H1 Q EX
  rw [List.append_nil]
  subst hs
  obtain ⟨a1, a2, a3⟩ := S1.src a rfl
  refine ⟨by simp [w1.length, hd1.1], a, vs, W1, ds, _, Er, rfl, S1.tr, S1.sub a a1, a3, w1, hd1.2, fun v d H2 hR sm hs2 w2 => ?_, fun C d dd v H2 her fr hsr hdd hxd hdw => ?_⟩
  · have S2 := S1.grow (H' := H2) (fun b o hb h => sm b o hb h) fun b hb => by cases hb; exact hs2
    refine kk v d W1 ρ1 H2 hR s1 (e1.trans fun b o hn h => sm b o (fun z => ?_) h) S2 w2
    cases z
    exact hn (s1 _ (S1.sub _ a1))
  · exact eo C d dd v H2 her (fun b o hb hne => fr b o (S1.frame b o hb hne) hne) hsr (S1.fresh0 hdd) hxd (hdw.to (Ext.refl _ _) S1.sub)
end
end DD

/-! Statements over data. -/
namespace DD
open PySem L2
structure DEnds where
  nx : Env' → Prop
  rt : PyData → Prop
  bk : Env' → Prop := fun _ => False
  ct : Env' → Prop := fun _ => False
abbrev DS := DEnds → Env' → Er' → Prop
/-- the heap goes on: what belonged to nobody stays, what somebody owns now is new or was owned -/
def Step (W : List Addr) (H : Hp) (W' : List Addr) (H' : Hp) : Prop := Ext W H H' ∧ ∀ x ∈ W', x ∈ W ∨ H x = none
theorem Step.refl (W : List Addr) (H : Hp) : Step W H W H := ⟨Ext.refl _ _, fun _ h => .inl h⟩
theorem Step.of {W W' : List Addr} {H H' : Hp} (s : ∀ x ∈ W', x ∈ W) (e : Ext W H H') : Step W H W' H' := ⟨e, fun x h => .inl (s x h)⟩
theorem Step.trans {W W1 W2 : List Addr} {H H1 H2 : Hp} (a : Step W H W1 H1) (b : Step W1 H1 W2 H2) : Step W H W2 H2 := by
  refine ⟨fun x o n h => ?_, fun x h => ?_⟩
  · refine b.1 x o (fun z => ?_) (a.1 x o n h)
    rcases a.2 x z with q | q
    · exact n q
    · rw [h] at q; cases q
  · rcases b.2 x h with q | q
    · exact a.2 x q
    · by_cases hx : x ∈ W
      · exact .inl hx
      · refine .inr ?_
        cases e : H x with
        | none => rfl
        | some o =>
          rw [a.1 x o hx e] at q
          cases q
theorem Step.dw {K : Fg} {W W' : List Addr} {H H' : Hp} {v : V} {d : PyData} (a : Step W H W' H') (h : Dw K H W v d) : Dw K H' W' v d := by
  have aux : (∀ {v d}, Dw K H W v d → Dw K H' W' v d) := by
    intro v d h
    exact Dw.rec (motive_1 := fun v d _ => Dw K H' W' v d) (motive_2 := fun vs ds _ => DwA K H' W' vs ds)
      .non .bl .int .str
      (fun n r _ ih => .lst (fun z => (a.2 _ z).elim n fun q => by rw [r] at q; cases q) (a.1 _ _ n r) ih)
      (fun n r _ ih => .tup (fun z => (a.2 _ z).elim n fun q => by rw [r] at q; cases q) (a.1 _ _ n r) ih)
      (fun k _ ih => .ktup k ih)
      (fun n r k _ ih => .dct (fun z => (a.2 _ z).elim n fun q => by rw [r] at q; cases q) (a.1 _ _ n r) k ih)
      .nil (fun _ _ i1 i2 => .cons i1 i2) h
  exact aux h
theorem Step.dwA {K : Fg} {W W' : List Addr} {H H' : Hp} (a : Step W H W' H') : ∀ {vs : List V} {ds : List PyData}, DwA K H W vs ds → DwA K H' W' vs ds
  | _, _, .nil => .nil
  | _, _, .cons h q => .cons (a.dw h) (a.dwA q)
/-- behind a statement -/
structure BkS (K : Fg) (H0 : Hp) (W0 : List Addr) (s : Option Addr) (W : List Addr) (H : Hp) (D : DEnds) (E : Ends) : Prop where
  nx : ∀ (W' : List Addr) (σ' : St) (ρ' : Env') (H' : Hp), D.nx ρ' → Step W H W' H' → SOk K H0 W0 s W' σ' ρ' H' → E.nx σ' H'
  rt : ∀ (W' : List Addr) (σ' : St) (ρ' : Env') (H' : Hp) (v : V) (d : PyData), D.rt d → SOk K H0 W0 s W' σ' ρ' H' → Dw K H' W' v d → E.rt v H'
  bk : ∀ (W' : List Addr) (σ' : St) (ρ' : Env') (H' : Hp), D.bk ρ' → Step W H W' H' → SOk K H0 W0 s W' σ' ρ' H' → E.bk σ' H'
  ct : ∀ (W' : List Addr) (σ' : St) (ρ' : Env') (H' : Hp), D.ct ρ' → Step W H W' H' → SOk K H0 W0 s W' σ' ρ' H' → E.ct σ' H'
theorem BkS.after {K : Fg} {H0 : Hp} {W0 : List Addr} {s : Option Addr} {W W1 : List Addr} {H H1 : Hp} {D : DEnds} {E : Ends} (b : BkS K H0 W0 s W H D E) (st : Step W H W1 H1) : BkS K H0 W0 s W1 H1 D E :=
  ⟨fun W' σ' ρ' H' h s' S => b.nx W' σ' ρ' H' h (st.trans s') S, b.rt, fun W' σ' ρ' H' h s' S => b.bk W' σ' ρ' H' h (st.trans s') S, fun W' σ' ρ' H' h s' S => b.ct W' σ' ρ' H' h (st.trans s') S⟩
structure DSx (X : Cx) (EX : XK) (st : Stmt) (dt : DS) : Prop where
  ex : ∃ t, PS X st t ∧ ∀ (s : Option Addr) (H0 : Hp) (W0 W : List Addr) (σ : St) (ρ : Env') (H : Hp) (D : DEnds) (Er : Er') (E : Ends), SOk X.K H0 W0 s W σ ρ H → ErOk X.K H0 W0 s EX Er → dt D ρ Er → BkS X.K H0 W0 s W H D E → t E σ H
structure DBx (X : Cx) (EX : XK) (st : List Stmt) (dt : DS) : Prop where
  ex : ∃ t, PSs X st t ∧ ∀ (s : Option Addr) (H0 : Hp) (W0 W : List Addr) (σ : St) (ρ : Env') (H : Hp) (D : DEnds) (Er : Er') (E : Ends), SOk X.K H0 W0 s W σ ρ H → ErOk X.K H0 W0 s EX Er → dt D ρ Er → BkS X.K H0 W0 s W H D E → t E σ H
section
variable {X : Cx} {EX : XK} {st : Stmt} {rest : List Stmt} {ds du : DS} {e : Expr} {da : DE} {pos : Pos}
def sNil : DS := fun D ρ _ => D.nx ρ
def sSeq (a b : DS) : DS := fun D ρ Er => a { D with nx := fun ρ1 => b D ρ1 Er } ρ Er
theorem db_nil : DBx X EX [] sNil := ⟨_, pss_nil, fun s H0 W0 W σ ρ H D Er E S eo hd k => k.nx W σ ρ H hd (Step.refl _ _) S⟩
theorem db_cons (h1 : DSx X EX st ds) (h2 : DBx X EX rest du) : DBx X EX (st :: rest) (sSeq ds du) := by
  obtain ⟨t, p, q⟩ := h1.ex
  obtain ⟨t2, p2, q2⟩ := h2.ex
  refine ⟨_, pss_cons p p2, fun s H0 W0 W σ ρ H D Er E S eo hd k => ?_⟩
  exact q s H0 W0 W σ ρ H { D with nx := fun ρ1 => du D ρ1 Er } Er _ S eo hd ⟨fun W' σ' ρ' H' h st S' => q2 s H0 W0 W' σ' ρ' H' D Er E S' eo h (k.after st), k.rt, k.bk, k.ct⟩
theorem db_one (h1 : DSx X EX st ds) : DBx X EX [st] ds := by
  obtain ⟨t, p, q⟩ := h1.ex
  exact ⟨_, pss_one p, q⟩
theorem ds_pass : DSx X EX (.Pass pos) sNil := ⟨_, ps_pass, fun s H0 W0 W σ ρ H D Er E S eo hd k => k.nx W σ ρ H hd (Step.refl _ _) S⟩
def sBrk : DS := fun D ρ _ => D.bk ρ
def sCont : DS := fun D ρ _ => D.ct ρ
theorem ds_brk : DSx X EX (.Break pos) sBrk := ⟨_, ps_break, fun s H0 W0 W σ ρ H D Er E S eo hd k => k.bk W σ ρ H hd (Step.refl _ _) S⟩
theorem ds_cont : DSx X EX (.Continue pos) sCont := ⟨_, ps_continue, fun s H0 W0 W σ ρ H D Er E S eo hd k => k.ct W σ ρ H hd (Step.refl _ _) S⟩
def sRet (a : DE) : DS := fun D ρ Er => a ρ (fun d _ => D.rt d) Er
theorem ds_ret (ha : DEx X EX e da) : DSx X EX (.Return (some e) pos) (sRet da) := by
  obtain ⟨t, p, q⟩ := ha.ex
  refine ⟨_, ps_ret p, fun s H0 W0 W σ ρ H D Er E S eo hd k => ?_⟩
  exact q s H0 W0 W σ ρ H _ Er _ S eo hd fun v d W1 ρ1 H1 hd1 s1 e1 S1 w1 => k.rt W1 σ ρ1 H1 v d hd1 S1 w1
def sDrop (a : DE) : DS := fun D ρ Er => a ρ (fun _ ρ1 => D.nx ρ1) Er
theorem ds_expr (ha : DEx X EX e da) (hs : swapsWith e none pos.line X.env = pure false := by rfl) : DSx X EX (.Expr e pos) (sDrop da) := by
  obtain ⟨t, p, q⟩ := ha.ex
  refine ⟨_, ps_expr p hs, fun s H0 W0 W σ ρ H D Er E S eo hd k => ?_⟩
  exact q s H0 W0 W σ ρ H _ Er _ S eo hd fun v d W1 ρ1 H1 hd1 s1 e1 S1 w1 => k.nx W1 σ ρ1 H1 hd1 (Step.of s1 e1) S1
def sIf (c : DT) (a b : DS) : DS := fun D ρ Er => c ρ (fun k ρ1 => match k with | true => a D ρ1 Er | false => b D ρ1 Er) Er
theorem ds_if {c : Expr} {a b : List Stmt} {dc : DT} (hc : DTx X EX c dc) (ha : DBx X EX a ds) (hb : DBx X EX b du) : DSx X EX (.If c a b pos) (sIf dc ds du) := by
  obtain ⟨t, p, q⟩ := hc.ex
  obtain ⟨t1, p1, q1⟩ := ha.ex
  obtain ⟨t2, p2, q2⟩ := hb.ex
  refine ⟨_, ps_if p p1 p2, fun s H0 W0 W σ ρ H D Er E S eo hd k => ?_⟩
  refine q s H0 W0 W σ ρ H _ Er _ S eo hd fun b W1 ρ1 H1 hd1 s1 e1 S1 => ?_
  cases b with
  | true => exact iteT (q1 s H0 W0 W1 σ ρ1 H1 D Er E S1 eo hd1 (k.after (Step.of s1 e1)))
  | false => exact iteF (q2 s H0 W0 W1 σ ρ1 H1 D Er E S1 eo hd1 (k.after (Step.of s1 e1)))
/-! ### targets -/
abbrev DG := PyData → Env' → (Env' → Prop) → Prop
/-- the slots told are the only ones that are stored -/
structure DGx (X : Cx) (tg : Expr) (is : List Nat) (dg : DG) : Prop where
  ex : ∃ g, PG X tg g ∧ ∀ (s : Option Addr) (H0 : Hp) (W0 W : List Addr) (σ : St) (ρ : Env') (H : Hp) (v : V) (d : PyData) (R : Env' → Prop) (Q : St → Hp → Prop), SOk X.K H0 W0 s W σ ρ H → Dw X.K H W v d → dg d ρ R →
    (∀ (σ' : St) (ρ' : Env'), R ρ' → SOk X.K H0 W0 s W σ' ρ' H → (∀ vs : List Nat, (∀ i ∈ is, i ∈ vs) → wipe σ' vs = wipe σ vs) → Q σ' H) → g v σ H Q
structure DGsx (X : Cx) (tgs : List Expr) (is : List Nat) (dg : List PyData → Env' → (Env' → Prop) → Prop) : Prop where
  ex : ∃ g, PGs X tgs g ∧ ∀ (s : Option Addr) (H0 : Hp) (W0 W : List Addr) (σ : St) (ρ : Env') (H : Hp) (vs : List V) (ds : List PyData) (R : Env' → Prop) (Q : St → Hp → Prop), SOk X.K H0 W0 s W σ ρ H → DwA X.K H W vs ds → dg ds ρ R →
    (∀ (σ' : St) (ρ' : Env'), R ρ' → SOk X.K H0 W0 s W σ' ρ' H → (∀ vs : List Nat, (∀ i ∈ is, i ∈ vs) → wipe σ' vs = wipe σ vs) → Q σ' H) → g vs σ H Q
theorem wipe_get (σ : St) (i : Nat) : ∀ vs : List Nat, (wipe σ vs)[i]? = if i ∈ vs then (σ[i]?).map fun _ => none else σ[i]?
  | [] => by simp [wipe]
  | v :: vs => by
    unfold wipe
    have ih := wipe_get σ i vs
    by_cases hv : v = i
    · subst hv
      rw [if_pos List.mem_cons_self]
      by_cases hl : v < σ.length
      · rw [List.getElem?_set_self (by rw [wipe_length]; exact hl), List.getElem?_eq_getElem hl]; rfl
      · rw [List.getElem?_eq_none (by simp [wipe_length]; omega), List.getElem?_eq_none (by omega)]; rfl
    · rw [List.getElem?_set_ne hv, ih]
      by_cases h : i ∈ vs
      · rw [if_pos h, if_pos (List.mem_cons_of_mem _ h)]
      · rw [if_neg h, if_neg (by simp only [List.mem_cons, not_or]; exact ⟨fun e => hv e.symm, h⟩)]
theorem wipe_set {σ : St} {i : Nat} {x : Option V} {vs : List Nat} (h : i ∈ vs) : wipe (σ.set i x) vs = wipe σ vs := by
  apply List.ext_getElem?
  intro j
  rw [wipe_get, wipe_get]
  by_cases hj : j ∈ vs
  · rw [if_pos hj, if_pos hj]
    by_cases e : i = j
    · subst e
      by_cases hl : i < σ.length
      · rw [List.getElem?_set_self hl, List.getElem?_eq_getElem hl]; rfl
      · rw [List.getElem?_eq_none (by simp; omega), List.getElem?_eq_none (by omega)]
    · rw [List.getElem?_set_ne e]
  · rw [if_neg hj, if_neg hj, List.getElem?_set_ne (fun e => hj (by subst e; exact h))]
def gN (i : Nat) : DG := fun d ρ R => R (ρ.set i (some (.dat d)))
theorem dg_name {i : Nat} {x : Str} {p : Pos} (h : PG X (.Name x p) (gName i)) : DGx X (.Name x p) [i] (gN i) := by
  refine ⟨_, h, fun s H0 W0 W σ ρ H v d R Q S w hd k => ?_⟩
  exact k _ _ hd (S.set w) fun vs hv => wipe_set (hv i (by simp))
def gNil' : List PyData → Env' → (Env' → Prop) → Prop := fun ds ρ R => match ds with | [] => R ρ | _ => False
def gCons' (g : DG) (r : List PyData → Env' → (Env' → Prop) → Prop) : List PyData → Env' → (Env' → Prop) → Prop := fun ds ρ R => match ds with | d :: ds => g d ρ (fun ρ1 => r ds ρ1 R) | [] => False
theorem dgs_nil : DGsx X [] [] gNil' := by
  refine ⟨_, pgs_nil, fun s H0 W0 W σ ρ H vs ds R Q S w hd k => ?_⟩
  cases w with
  | nil => exact ⟨rfl, k σ ρ hd S fun _ _ => rfl⟩
  | cons a b => exact hd.elim
theorem dgs_cons {t : Expr} {ts : List Expr} {is js : List Nat} {g : DG} {r} (h1 : DGx X t is g) (h2 : DGsx X ts js r) (hs : (assignEach (t :: ts) X.env).map (·.2) = assign t X.env :: (assignEach ts X.env).map (·.2) := by rfl) : DGsx X (t :: ts) (is ++ js) (gCons' g r) := by
  obtain ⟨g1, p, q⟩ := h1.ex
  obtain ⟨g2, p2, q2⟩ := h2.ex
  refine ⟨_, pgs_cons p p2 hs, fun s H0 W0 W σ ρ H vs ds R Q S w hd k => ?_⟩
  cases w with
  | nil => exact hd.elim
  | cons a b =>
    refine ⟨_, _, rfl, q s H0 W0 W σ ρ H _ _ _ _ S a hd fun σ1 ρ1 hd1 S1 e1 => ?_⟩
    refine q2 s H0 W0 W σ1 ρ1 H _ _ R Q S1 b hd1 fun σ2 ρ2 hd2 S2 e2 => ?_
    exact k σ2 ρ2 hd2 S2 fun vs hv => (e2 vs fun i hi => hv i (List.mem_append_right _ hi)).trans (e1 vs fun i hi => hv i (List.mem_append_left _ hi))
/-- (a, b, ..) = a tuple of that length -/
def gT (n : Nat) (g : List PyData → Env' → (Env' → Prop) → Prop) : DG := fun d ρ R => match d with | .tuple ds => ds.length = n ∧ g ds ρ R | _ => False
theorem dg_tup {ts : List Expr} {k n : Nat} {is : List Nat} {g} (hc : X.calm = true) (h : DGsx X ts is g) (hn : (assignEach ts X.env).length = n := by rfl) (hst : (assignEach ts X.env).findIdx? (·.1) = none := by rfl) : DGx X (.Tuple ts k pos) is (gT n g) := by
  obtain ⟨g1, p, q⟩ := h.ex
  refine ⟨_, pg_tup hc p hn hst, fun s H0 W0 W σ ρ H v d R Q S w hd kk => ?_⟩
  cases d with
  | tuple ds =>
    obtain ⟨a, rfl⟩ := w.tupV
    obtain ⟨xs, hs, qq⟩ := w.sqT
    exact ⟨a, xs, rfl, hs, by rw [qq.length]; exact hd.1, q s H0 W0 W σ ρ H xs ds R Q S qq hd.2 kk⟩
  | _ => exact hd.elim
/-! ### assignments -/
def sAsg (a : DE) (g : DG) : DS := fun D ρ Er => a ρ (fun d ρ1 => g d ρ1 D.nx) Er
theorem ds_asg {tg : Expr} {is : List Nat} {g : DG} (ha : DEx X EX e da) (hg : DGx X tg is g) (hs : swapsWithSole [tg] e pos.line X.env = pure false := by rfl) (hw : swappedStores [tg] e X.env = pure none := by rfl)
    (h1 : (assignEach [tg] X.env).map (·.2) = [assign tg X.env] := by rfl) : DSx X EX (.Assign [tg] e pos) (sAsg da g) := by
  obtain ⟨t, p, q⟩ := ha.ex
  obtain ⟨g1, pg, qg⟩ := hg.ex
  refine ⟨_, ps_asg p pg hs hw h1, fun s H0 W0 W σ ρ H D Er E S eo hd k => ?_⟩
  refine q s H0 W0 W σ ρ H _ Er _ S eo hd fun v d W1 ρ1 H1 hd1 s1 e1 S1 w1 => ?_
  exact qg s H0 W0 W1 σ ρ1 H1 v d D.nx _ S1 w1 hd1 fun σ' ρ' h S' _ => k.nx W1 σ' ρ' H1 h (Step.of s1 e1) S'
/-- name = e -/
def sSet (i : Nat) (a : DE) : DS := fun D ρ Er => a ρ (fun d ρ1 => D.nx (ρ1.set i (some (.dat d)))) Er
theorem ds_set {i : Nat} {x : Str} {pos' : Pos} (mk : ∀ te, PE X e te → PS X (.Assign [.Name x pos'] e pos) (tAsg te (gName i))) (ha : DEx X EX e da) : DSx X EX (.Assign [.Name x pos'] e pos) (sSet i da) := by
  obtain ⟨t, p, q⟩ := ha.ex
  refine ⟨_, mk t p, fun s H0 W0 W σ ρ H D Er E S eo hd k => ?_⟩
  refine q s H0 W0 W σ ρ H _ Er _ S eo hd fun v d W1 ρ1 H1 hd1 s1 e1 S1 w1 => ?_
  exact k.nx W1 _ _ H1 hd1 (Step.of s1 e1) (S1.set w1)
/-- a, b = x, y -/
def sPar (i j : Nat) (a : DA) : DS := fun D ρ Er => a ρ (fun ds ρ1 => match ds with | [d, e] => D.nx ((ρ1.set i (some (.dat d))).set j (some (.dat e))) | _ => False) Er
theorem ds_par {i j : Nat} {es : List Expr} {d : DA} (mk : ∀ ta, PA X es ta → PS X st (tPar i j ta)) (ha : DAx X EX es d) : DSx X EX st (sPar i j d) := by
  obtain ⟨t, p, q⟩ := ha.ex
  refine ⟨_, mk t p, fun s H0 W0 W σ ρ H D Er E S eo hd k => ?_⟩
  refine q s H0 W0 W σ ρ H _ Er _ S eo hd fun vs ds W1 ρ1 H1 hd1 s1 e1 S1 w1 => ?_
  split at hd1
  · cases w1 with
    | cons a b => cases b with
      | cons c d => cases d; exact ⟨_, _, rfl, k.nx W1 _ _ H1 hd1 (Step.of s1 e1) ((S1.set a).set c)⟩
  · exact hd1.elim
/-- name += e, of ints -/
def sAug (i : Nat) (f : D2) (a : DE) : DS := fun D ρ Er => match ρ[i]? with
  | some (some (.dat x)) => a ρ (fun y ρ1 => match f x y with | some z => D.nx (ρ1.set i (some (.dat z))) | none => False) Er
  | _ => False
theorem ds_aug_add {i : Nat} {x : Str} {pos' : Pos} (mk : ∀ te, PE X e te → PS X (.AugAssign (.Name x pos') .Add e pos) (tAug i te (ipI fun a b => a + b))) (ha : DEx X EX e da) : DSx X EX (.AugAssign (.Name x pos') .Add e pos) (sAug i (dI2 fun a b => a + b) da) := by
  obtain ⟨t, p, q⟩ := ha.ex
  refine ⟨_, mk t p, fun s H0 W0 W σ ρ H D Er E S eo hd k => ?_⟩
  unfold sAug at hd
  split at hd
  · rename_i d hi
    obtain ⟨v, h1, h2⟩ := S.slot i _ hi
    refine ⟨v, h1, q s H0 W0 W σ ρ H _ Er _ S eo hd fun u d2 W1 ρ1 H1 hd1 s1 e1 S1 w1 => ?_⟩
    split at hd1
    · rename_i z hz
      unfold dI2 at hz
      split at hz
      · cases hz
        cases w1
        have h2' : Dw X.K H W v _ := h2
        cases h2'
        exact ⟨_, _, rfl, rfl, k.nx W1 _ _ H1 hd1 (Step.of s1 e1) (S1.set (.int _))⟩
      · cases hz
    · exact hd1.elim
  · exact hd.elim
end
end DD

/-! What is walked; for, while, comprehensions. -/
namespace DD
open PySem L2
structure ItOk (K : Fg) (J : It) (W : List Addr) (H : Hp) (ds : List PyData) : Prop where
  go : ∀ (j : Nat) (W2 : List Addr) (H2 : Hp) (d : PyData), Step W H W2 H2 → ds[j]? = some d → J.go j H2 ∧ ∀ x H3, J.yld j H2 x H3 → Same H2 H3 ∧ Dw K H3 W2 x d
  stop : ∀ (j : Nat) (W2 : List Addr) (H2 : Hp), Step W H W2 H2 → ds.length ≤ j → J.stop j H2
abbrev DI := Env' → (List PyData → Env' → Prop) → Er' → Prop
structure DIx (X : Cx) (EX : XK) (tg iter : Expr) (di : DI) : Prop where
  ex : ∃ wi, PI X tg iter wi ∧ ∀ (s : Option Addr) (H0 : Hp) (W0 W : List Addr) (σ : St) (ρ : Env') (H : Hp) (R : List PyData → Env' → Prop) (Er : Er') (Q : It → Hp → Prop), SOk X.K H0 W0 s W σ ρ H → ErOk X.K H0 W0 s EX Er → di ρ R Er →
    (∀ (J : It) (ds : List PyData) (W' : List Addr) (ρ' : Env') (H' : Hp), R ds ρ' → (∀ x ∈ W', x ∈ W) → Ext W H H' → SOk X.K H0 W0 s W' σ ρ' H' → ItOk X.K J W' H' ds → Q J H') → wi σ H Q
section
variable {X : Cx} {EX : XK} {e tg iter : Expr} {da : DE} {pos : Pos}
/-- a list or a tuple, walked -/
def iSeq (K : Fg) (t : TE) : TI := fun σ H R => t σ H fun x H1 => ∃ a, x = .ref a ∧ (((∃ xs, SqL K H1 a xs) ∧ R (Itl K a) H1) ∨ ((∃ xs, SqT K H1 a xs) ∧ R (Itt K a) H1))
theorem pi_seq {l : Expr} {t : TE} (hl : PE X l t) : PI X tg l (iSeq X.K t) := by
  constructor
  intro pins s σ H R I h
  refine thn (hl.run pins s σ H _ I h) fun v s1 q => ?_
  obtain ⟨x, H1, I1, r1, a, rfl, q⟩ := q
  cases r1
  have fin : ∀ b ∈ [s1.heap.objs.size], FpOk X pins H1 b := fun b hb => by
    have e : b = s1.heap.objs.size := by simpa using hb
    subst e
    exact I1.fpOk (Nat.le_refl _) (I1.hok.fresh (Nat.le_refl _))
  rcases q with ⟨⟨xs, hq⟩, q⟩ | ⟨⟨xs, hq⟩, q⟩
  · obtain ⟨its, rv, p, hz⟩ := I1.list hq
    exact wpAny_pyIter_list p.isList ⟨s1.heap.objs.size, [s1.heap.objs.size], _, _, H1, rfl, I1.kept (t' := s1.toks) fun b o e => Heap.get?_push_of_some _ e, turn_list a _, ⟨_, Heap.get?_push_size _ rfl, rfl, rfl⟩, fin, q⟩
  · obtain ⟨its, rv, p, hz⟩ := I1.tuple hq
    exact wpAny_pyIter_tuple (show s1.heap.IsTuple a its.toArray from p) ⟨s1.heap.objs.size, [s1.heap.objs.size], _, _, H1, rfl, I1.kept (t' := s1.toks) fun b o e => Heap.get?_push_of_some _ e, turn_tuple a _, ⟨_, Heap.get?_push_size _ rfl, rfl, rfl⟩, fin, q⟩
def dSeq (a : DE) : DI := fun ρ R Er => a ρ (fun d ρ1 => match d with | .list ds => R ds ρ1 | .tuple ds => R ds ρ1 | _ => False) Er
theorem sqT_step {K : Fg} {W W' : List Addr} {H H' : Hp} {a : Addr} {ds : List PyData} (st : Step W H W' H') (h : Dw K H W (.ref a) (.tuple ds)) : ∃ xs, SqT K H' a xs ∧ DwA K H' W' xs ds := (st.dw h).sqT
/-- a place's value is one -/
theorem it_list {K : Fg} {W : List Addr} {H : Hp} {a : Addr} {ds : List PyData} (h : Dw K H W (.ref a) (.list ds)) : ItOk K (Itl K a) W H ds := by
  refine ⟨fun j W2 H2 d st hj => ?_, fun j W2 H2 st hj => ?_⟩
  · obtain ⟨xs, h1, q⟩ := (st.dw h).sqL
    obtain ⟨v, hv, hd⟩ := q.get hj
    refine ⟨⟨xs, v, h1, hv⟩, fun x H3 y => ?_⟩
    obtain ⟨e, y⟩ := y
    subst e
    have := y xs h1
    rw [hv] at this
    cases this
    exact ⟨Same.refl _, hd⟩
  · obtain ⟨xs, h1, q⟩ := (st.dw h).sqL
    exact ⟨xs, h1, by rw [q.length]; exact hj⟩
theorem it_tup {K : Fg} {W : List Addr} {H : Hp} {a : Addr} {ds : List PyData} (h : Dw K H W (.ref a) (.tuple ds)) : ItOk K (Itt K a) W H ds := by
  refine ⟨fun j W2 H2 d st hj => ?_, fun j W2 H2 st hj => ?_⟩
  · obtain ⟨xs, h1, q⟩ := (st.dw h).sqT
    obtain ⟨v, hv, hd⟩ := q.get hj
    refine ⟨⟨xs, v, h1, hv⟩, fun x H3 y => ?_⟩
    obtain ⟨e, y⟩ := y
    subst e
    have := y xs h1
    rw [hv] at this
    cases this
    exact ⟨Same.refl _, hd⟩
  · obtain ⟨xs, h1, q⟩ := (st.dw h).sqT
    exact ⟨xs, h1, by rw [q.length]; exact hj⟩
theorem di_seq (ha : DEx X EX e da) : DIx X EX tg e (dSeq da) := by
  obtain ⟨t, p, q⟩ := ha.ex
  refine ⟨_, pi_seq p, fun s H0 W0 W σ ρ H R Er Q S eo hd k => ?_⟩
  refine q s H0 W0 W σ ρ H _ Er _ S eo hd fun v d W1 ρ1 H1 hd1 s1 e1 S1 w1 => ?_
  cases d with
  | list ds =>
    obtain ⟨a, rfl⟩ := w1.lstV
    obtain ⟨xs, h1, _⟩ := w1.sqL
    exact ⟨a, rfl, .inl ⟨⟨xs, h1⟩, k _ ds W1 ρ1 H1 hd1 s1 e1 S1 (it_list w1)⟩⟩
  | tuple ds =>
    obtain ⟨a, rfl⟩ := w1.tupV
    obtain ⟨xs, h1, _⟩ := w1.sqT
    exact ⟨a, rfl, .inr ⟨⟨xs, h1⟩, k _ ds W1 ρ1 H1 hd1 s1 e1 S1 (it_tup w1)⟩⟩
  | _ => exact hd1.elim
/-- lo, lo + 1, .. -/
def rangeD (lo : Int) (n : Nat) : List PyData := (List.range n).map fun i => .int (lo + (i : Nat))
theorem rangeD_length (lo : Int) (n : Nat) : (rangeD lo n).length = n := by simp [rangeD]
theorem it_range {K : Fg} {W : List Addr} {H : Hp} {lo : Int} {n : Nat} : ItOk K (Itr lo n) W H (rangeD lo n) := by
  refine ⟨fun j W2 H2 d st hj => ?_, fun j W2 H2 st hj => by rw [rangeD_length] at hj; exact hj⟩
  have hl : j < n := by
    have := (List.getElem?_eq_some_iff.mp hj).1
    rwa [rangeD_length] at this
  refine ⟨hl, fun x H3 y => ?_⟩
  obtain ⟨e, y⟩ := y
  subst e y
  have : d = .int (lo + (j : Nat)) := by
    unfold rangeD at hj
    rw [List.getElem?_map, List.getElem?_range hl] at hj
    exact (Option.some.inj hj).symm
  subst this
  exact ⟨Same.refl _, .int _⟩
def dRange1 (a : DE) : DI := fun ρ R Er => a ρ (fun d ρ1 => match d with | .int n => -(2 ^ 62) ≤ n ∧ n < 2 ^ 62 ∧ R (rangeD 0 n.toNat) ρ1 | _ => False) Er
def dRange2 (a b : DE) : DI := fun ρ R Er => a ρ (fun d ρ1 => b ρ1 (fun e ρ2 => match d, e with | .int i, .int j => (-(2 ^ 62) ≤ i ∧ i < 2 ^ 62 ∧ -(2 ^ 62) ≤ j ∧ j < 2 ^ 62) ∧ R (rangeD i (j - i).toNat) ρ2 | _, _ => False) Er) Er
theorem di_range1 {a : Expr} {p : Pos} (hg : Gl X "range") (hm : X.mg "range" = none) (ha : DEx X EX a da) (hs : starEach [a] X.env = [(false, eval a X.env)] := by rfl) (hs2 : starEach [a] X.env = (false, eval a X.env) :: starEach [] X.env := by rfl) :
    DIx X EX tg (.Call (.Name "range" p) [a] [] pos) (dRange1 da) := by
  obtain ⟨t, pa, q⟩ := ha.ex
  refine ⟨_, pi_range1 hg hm (pa_cons pa pa_nil hs2) hs, fun s H0 W0 W σ ρ H R Er Q S eo hd k => ?_⟩
  refine q s H0 W0 W σ ρ H _ Er _ S eo hd fun v d W1 ρ1 H1 hd1 s1 e1 S1 w1 => ?_
  split at hd1
  · cases w1
    exact ⟨_, rfl, hd1.1, hd1.2.1, k _ _ W1 ρ1 H1 hd1.2.2 s1 e1 S1 it_range⟩
  · exact hd1.elim
theorem di_range2 {a b : Expr} {db : DE} {p : Pos} (hg : Gl X "range") (hm : X.mg "range" = none) (ha : DEx X EX a da) (hb : DEx X EX b db) (hs : starEach [a, b] X.env = [(false, eval a X.env), (false, eval b X.env)] := by rfl) (hs2 : starEach [b] X.env = [(false, eval b X.env)] := by rfl)
    (h3 : starEach [a, b] X.env = (false, eval a X.env) :: starEach [b] X.env := by rfl) (h4 : starEach [b] X.env = (false, eval b X.env) :: starEach [] X.env := by rfl) :
    DIx X EX tg (.Call (.Name "range" p) [a, b] [] pos) (dRange2 da db) := by
  obtain ⟨t, pa, q⟩ := ha.ex
  obtain ⟨t2, pb, q2⟩ := hb.ex
  refine ⟨_, pi_range2 hg hm (pa_cons pa (pa_cons pb pa_nil h4) h3) hs hs2, fun s H0 W0 W σ ρ H R Er Q S eo hd k => ?_⟩
  refine q s H0 W0 W σ ρ H _ Er _ S eo hd fun v d W1 ρ1 H1 hd1 s1 e1 S1 w1 => ?_
  refine q2 s H0 W0 W1 σ ρ1 H1 _ Er _ S1 eo hd1 fun u e W2 ρ2 H2 hd2 s2 e2 S2 w2 => ?_
  split at hd2
  · cases w1
    cases w2
    exact ⟨_, _, rfl, hd2.1, k _ _ W2 ρ2 H2 hd2.2 (sub_tr s2 s1) (ext_tr e1 e2 s1) S2 it_range⟩
  · exact hd2.elim
/-! ### for -/
def forGo (g : DG) (body : DS) (D : DEnds) (Er : Er') : List PyData → Env' → Prop
  | [], ρ => D.nx ρ
  | d :: r, ρ => g d ρ fun ρ1 => body { nx := forGo g body D Er r, ct := forGo g body D Er r, bk := D.nx, rt := D.rt } ρ1 Er
def sFor (di : DI) (g : DG) (body : DS) : DS := fun D ρ Er => di ρ (fun ds ρ1 => forGo g body D Er ds ρ1) Er
theorem ds_for {body : List Stmt} {di : DI} {is : List Nat} {g : DG} {db : DS} (hp : PassesOwn (model X.prog X.w) X.A X.env X.xe) (hc : X.calm = true) (hi : DIx X EX tg iter di) (hg : DGx X tg is g) (hb : DBx X EX body db)
    (hs : ∀ x, foldedSetIterable iter X.env x = pure x := by intro _; rfl) : DSx X EX (.For tg iter body [] pos) (sFor di g db) := by
  obtain ⟨wi, pi, qi⟩ := hi.ex
  obtain ⟨g1, pg, qg⟩ := hg.ex
  obtain ⟨tb, pb, qb⟩ := hb.ex
  refine ⟨_, ps_for hp hc pi pg pb hs, fun s H0 W0 W σ ρ H D Er E S eo hd k => ?_⟩
  refine qi s H0 W0 W σ ρ H _ Er _ S eo hd fun J ds W1 ρ1 H1 hd1 s1 e1 S1 ok => ?_
  have st0 : Step W H W1 H1 := Step.of s1 e1
  refine ⟨fun i m σ' H' => ∃ W' ρ', i + m = ds.length ∧ Step W1 H1 W' H' ∧ SOk X.K H0 W0 s W' σ' ρ' H' ∧ forGo g db D Er (ds.drop i) ρ', ⟨ds.length, W1, ρ1, by omega, Step.refl _ _, S1, hd1⟩, ?_⟩
  rintro i m σ2 H2 ⟨W2, ρ2, hm, st2, S2, f2⟩
  by_cases hlt : i < ds.length
  · have hdi : ds[i]? = some ds[i] := List.getElem?_eq_getElem hlt
    rw [List.drop_eq_getElem_cons hlt] at f2
    obtain ⟨ok1, ok2⟩ := ok.go i W2 H2 _ st2 hdi
    refine .inr ⟨ok1, fun σ' H' => ∃ W' ρ', Step W1 H1 W' H' ∧ SOk X.K H0 W0 s W' σ' ρ' H' ∧ forGo g db D Er (ds.drop (i + 1)) ρ', fun σ' H' ⟨W', ρ', a, b, c⟩ => ⟨m - 1, by omega, W', ρ', by omega, a, b, c⟩, fun x H3 y => ?_⟩
    obtain ⟨sm, dx⟩ := ok2 x H3 y
    have S3 := S2.same sm
    refine qg s H0 W0 W2 σ2 ρ2 H3 x _ _ _ S3 dx f2 fun σ4 ρ4 f4 S4 _ => ?_
    have st3 : Step W1 H1 W2 H3 := st2.trans (Step.of (fun _ z => z) (Ext.same sm))
    refine qb s H0 W0 W2 σ4 ρ4 H3 _ Er _ S4 eo f4 ⟨fun W' σ' ρ' H' h st S' => ⟨W', ρ', st3.trans st, S', h⟩, k.rt, fun W' σ' ρ' H' h st S' => k.nx W' σ' ρ' H' h (st0.trans (st3.trans st)) S', fun W' σ' ρ' H' h st S' => ⟨W', ρ', st3.trans st, S', h⟩⟩
  · refine .inl ⟨ok.stop i W2 H2 st2 (by omega), ?_⟩
    rw [List.drop_eq_nil_of_le (by omega)] at f2
    exact k.nx W2 σ2 ρ2 H2 f2 (st0.trans st2) S2
/-! ### while -/
def whileGo (c : DT) (body : DS) (D : DEnds) (Er : Er') : Nat → Env' → Prop
  | 0, _ => False
  | n + 1, ρ => c ρ (fun k ρ1 => match k with
    | true => body { nx := whileGo c body D Er n, ct := whileGo c body D Er n, bk := D.nx, rt := D.rt } ρ1 Er
    | false => D.nx ρ1) Er
def sWhile (c : DT) (body : DS) : DS := fun D ρ Er => ∃ n, whileGo c body D Er n ρ
theorem ds_while {c : Expr} {body : List Stmt} {dc : DT} {db : DS} (hp : PassesOwn (model X.prog X.w) X.A X.env X.xe) (hc : DTx X EX c dc) (hb : DBx X EX body db) : DSx X EX (.While c body [] pos) (sWhile dc db) := by
  obtain ⟨t, p, q⟩ := hc.ex
  obtain ⟨tb, pb, qb⟩ := hb.ex
  refine ⟨_, ps_while hp p pb, fun s H0 W0 W σ ρ H D Er E S eo hd k => ?_⟩
  obtain ⟨n, hd⟩ := hd
  refine ⟨fun m σ' H' => ∃ W' ρ', Step W H W' H' ∧ SOk X.K H0 W0 s W' σ' ρ' H' ∧ whileGo dc db D Er m ρ', ⟨n, W, ρ, Step.refl _ _, S, hd⟩, ?_⟩
  rintro m σ2 H2 ⟨W2, ρ2, st2, S2, f2⟩
  cases m with
  | zero => exact f2.elim
  | succ m =>
    refine q s H0 W0 W2 σ2 ρ2 H2 _ Er _ S2 eo f2 fun b W3 ρ3 H3 hd3 s3 e3 S3 => ?_
    have st3 : Step W H W3 H3 := st2.trans (Step.of s3 e3)
    cases b with
    | true =>
      refine iteT ⟨fun σ' H' => ∃ W' ρ', Step W H W' H' ∧ SOk X.K H0 W0 s W' σ' ρ' H' ∧ whileGo dc db D Er m ρ', fun σ' H' h => ⟨m, Nat.lt_succ_self m, h⟩, ?_⟩
      exact qb s H0 W0 W3 σ2 ρ3 H3 _ Er _ S3 eo hd3 ⟨fun W' σ' ρ' H' h st S' => ⟨W', ρ', st3.trans st, S', h⟩, k.rt, fun W' σ' ρ' H' h st S' => k.nx W' σ' ρ' H' h (st3.trans st) S', fun W' σ' ρ' H' h st S' => ⟨W', ρ', st3.trans st, S', h⟩⟩
    | false => exact iteF (k.nx W3 σ2 ρ3 H3 hd3 st3 S3)
/-! ### comprehensions -/
def wipeD (ρ : Env') : List Nat → Env'
  | [] => ρ
  | v :: vs => (wipeD ρ vs).set v none
theorem wipeD_length (ρ : Env') : ∀ vs : List Nat, (wipeD ρ vs).length = ρ.length
  | [] => rfl
  | v :: vs => by unfold wipeD; rw [List.length_set, wipeD_length ρ vs]
theorem wipeD_get {ρ : Env'} {i : Nat} {d : D} : ∀ {vs : List Nat}, (wipeD ρ vs)[i]? = some (some d) → ρ[i]? = some (some d) ∧ i ∉ vs
  | [], h => ⟨h, by simp⟩
  | v :: vs, h => by
    unfold wipeD at h
    by_cases e : v = i
    · subst e
      by_cases hl : v < (wipeD ρ vs).length
      · rw [List.getElem?_set_self hl] at h; cases h
      · rw [List.getElem?_eq_none (by simpa using hl)] at h; cases h
    · rw [List.getElem?_set_ne e] at h
      obtain ⟨h1, h2⟩ := wipeD_get h
      exact ⟨h1, by simp only [List.mem_cons, not_or]; exact ⟨fun z => e z.symm, h2⟩⟩
theorem SOk.wipe {K : Fg} {H0 H : Hp} {W0 W : List Addr} {s : Option Addr} {σ : St} {ρ : Env'} (S : SOk K H0 W0 s W σ ρ H) (vs : List Nat) : SOk K H0 W0 s W (L2.wipe σ vs) (wipeD ρ vs) H :=
  S.weak (by rw [L2.wipe_length, wipeD_length, S.len]) fun i d h => by
    obtain ⟨h1, h2⟩ := wipeD_get h
    exact ⟨h1, fun v hv => by rw [wipe_get, if_neg h2]; exact hv⟩
theorem SOk.unwipe {K : Fg} {H0 H : Hp} {W0 W : List Addr} {s : Option Addr} {σ : St} {ρ : Env'} {vs : List Nat} (S : SOk K H0 W0 s W (L2.wipe σ vs) ρ H) (h : ∀ i d, ρ[i]? = some (some d) → i ∉ vs) : SOk K H0 W0 s W σ ρ H :=
  S.weak (by rw [← S.len, L2.wipe_length]) fun i d hd => ⟨hd, fun v hv => by rw [wipe_get, if_neg (h i d hd)] at hv; exact hv⟩
/-- a list in the making, at p, seen as the entry's -/
def addH (H0 : Hp) (p : Addr) (o : HO) : Hp := upd H0 p o
theorem SOk.lift {K : Fg} {H0 H : Hp} {W0 W : List Addr} {s : Option Addr} {σ : St} {ρ : Env'} {p : Addr} {xs : List V} (S : SOk K H0 W0 s W σ ρ H) (hp0 : H0 p = none) (hp : H p = some (.lst xs)) (hw : p ∈ W)
    (hno : ∀ (i : Nat) (ds : List PyData), ρ[i]? = some (some (D.own ds)) → σ[i]? ≠ some (some (V.ref p))) : SOk K (upd H0 p (.lst xs)) (p :: W0) s W σ ρ H := by
  refine ⟨fun a ha => ?_, fun a ha => ?_, fun a ha => ?_, S.tr, fun b o h n => ?_, fun a ha => ?_, fun i d hd => ?_, S.uniq, S.len⟩
  · rcases List.mem_cons.mp ha with rfl | ha
    · exact hw
    · exact S.sub a ha
  · rcases List.mem_cons.mp ha with rfl | ha
    · exact ⟨_, upd_same⟩
    · obtain ⟨o, e⟩ := S.tr0 a ha
      exact ⟨o, by rw [upd_ne (ne_of_none e hp0)]; exact e⟩
  · by_cases e : a = p
    · exact .inl (by simp [e])
    · rcases S.new a ha with q | q
      · exact .inl (List.mem_cons_of_mem _ q)
      · exact .inr (by rw [upd_ne e]; exact q)
  · by_cases e : b = p
    · subst e
      rw [upd_same] at h
      cases h
      exact hp
    · rw [upd_ne e] at h
      exact S.frame b o h n
  · obtain ⟨q1, ⟨o, q2⟩, q3⟩ := S.src a ha
    exact ⟨List.mem_cons_of_mem _ q1, ⟨o, by rw [upd_ne (ne_of_none q2 hp0)]; exact q2⟩, q3⟩
  · obtain ⟨v, h1, h2⟩ := S.slot i d hd
    refine ⟨v, h1, ?_⟩
    cases d with
    | dat d => exact h2
    | own ds =>
      obtain ⟨a, ys, rfl, r1, r2, r3, r4⟩ := h2
      refine ⟨a, ys, rfl, r1, ?_, r3, r4⟩
      rw [upd_ne (fun e => hno i ds hd (by rw [h1, e]))]
      exact r2
    | src => exact h2
    | scr ns => exact h2
theorem SOk.drop {K : Fg} {H0 H : Hp} {W0 W : List Addr} {s : Option Addr} {σ : St} {ρ : Env'} {p : Addr} {xs : List V} (S : SOk K (upd H0 p (.lst xs)) (p :: W0) s W σ ρ H) (hp0 : H0 p = none) (tr0 : ∀ a ∈ W0, ∃ o, H0 a = some o) (hsp : s ≠ some p) (hs0 : ∀ a, s = some a → a ∈ W0 ∧ ∃ o, H0 a = some o) : SOk K H0 W0 s W σ ρ H ∧ p ∈ W ∧ H p = some (.lst xs) ∧ ∀ (i : Nat) (ds : List PyData), ρ[i]? = some (some (D.own ds)) → σ[i]? ≠ some (some (V.ref p)) := by
  refine ⟨⟨fun a ha => S.sub a (List.mem_cons_of_mem _ ha), tr0, fun a ha => ?_, S.tr, fun b o h n => S.frame b o (by rw [upd_ne (ne_of_none h hp0)]; exact h) n, fun a ha => ⟨(hs0 a ha).1, (hs0 a ha).2, (S.src a ha).2.2⟩, fun i d hd => ?_, S.uniq, S.len⟩, S.sub p List.mem_cons_self, S.frame p _ upd_same (fun z => hsp z.symm), fun i ds hi e => ?_⟩
  · rcases S.new a ha with q | q
    · rcases List.mem_cons.mp q with rfl | q
      · exact .inr hp0
      · exact .inl q
    · refine .inr ?_
      by_cases e : a = p
      · subst e; exact hp0
      · rw [upd_ne e] at q; exact q
  · obtain ⟨v, h1, h2⟩ := S.slot i d hd
    refine ⟨v, h1, ?_⟩
    cases d with
    | dat d => exact h2
    | own ds =>
      obtain ⟨a, ys, rfl, r1, r2, r3, r4⟩ := h2
      refine ⟨a, ys, rfl, r1, ?_, r3, r4⟩
      by_cases e : a = p
      · subst e; exact hp0
      · rw [upd_ne e] at r2; exact r2
    | src => exact h2
    | scr ns => exact h2
  · obtain ⟨v, h1, a, ys, rfl, r1, r2, r3, r4⟩ := S.slot i _ hi
    rw [e] at h1
    cases h1
    rw [upd_same] at r2
    cases r2
def noEr : Er' := fun _ _ => False
theorem erOk_no {K : Fg} {H0 : Hp} {W0 : List Addr} {s : Option Addr} {EX : XK} : ErOk K H0 W0 s EX noEr := fun _ _ _ _ _ h => h.elim
def lcGo (g : DG) (tt : DT) (te : DE) (own : List Nat) (R : List PyData → Env' → Prop) : List PyData → List PyData → Env' → Prop
  | [], acc, ρ => R acc ρ
  | d :: r, acc, ρ => g d ρ fun ρ1 => tt ρ1 (fun k ρ2 => match k with
    | true => te ρ2 (fun v ρ3 => acc.length < big ∧ lcGo g tt te own R r (acc ++ [v]) (wipeD ρ3 own)) noEr
    | false => lcGo g tt te own R r acc (wipeD ρ2 own)) noEr
def dLc (di : DI) (g : DG) (tt : DT) (te : DE) (own : List Nat) : DE := fun ρ R Er => di ρ (fun ds ρ1 => lcGo g tt te own (fun acc ρ2 => R (.list acc) ρ2) ds [] (wipeD ρ1 own)) Er
structure DTsx (X : Cx) (EX : XK) (ifs : List Expr) (dt : DT) : Prop where
  ex : ∃ t, PTs X ifs t ∧ ∀ (s : Option Addr) (H0 : Hp) (W0 W : List Addr) (σ : St) (ρ : Env') (H : Hp) (R : Bool → Env' → Prop) (Er : Er') (Q : Bool → Hp → Prop), SOk X.K H0 W0 s W σ ρ H → ErOk X.K H0 W0 s EX Er → dt ρ R Er → BkT X.K H0 W0 s W σ H R Q → t σ H Q
def dYes : DT := fun ρ R _ => R true ρ
theorem dts_nil : DTsx X EX [] dYes := ⟨_, pts_nil, fun s H0 W0 W σ ρ H R Er Q S eo hd k => k true W ρ H hd (fun _ z => z) (Ext.refl _ _) S⟩
theorem dts_one {c : Expr} {dc : DT} (h : DTx X EX c dc) : DTsx X EX [c] dc := by
  obtain ⟨t, p, q⟩ := h.ex
  exact ⟨t, pts_one p, q⟩
end
end DD

/-! Comprehensions; lists of a def's own; a def by its body. -/
namespace DD
open PySem L2
section
variable {X : Cx} {EX : XK} {e tg iter elt : Expr} {da : DE} {pos : Pos}
/-- [elt for tg in iter if ..] -/
theorem lc_sound {wi : TI} {g1 : TG} {tt1 : TT} {te1 : TE} {own : List Nat} {di : DI} {is : List Nat} {g : DG} {tt : DT} {te : DE}
    (qi : ∀ (s : Option Addr) (H0 : Hp) (W0 W : List Addr) (σ : St) (ρ : Env') (H : Hp) (R : List PyData → Env' → Prop) (Er : Er') (Q : It → Hp → Prop), SOk X.K H0 W0 s W σ ρ H → ErOk X.K H0 W0 s EX Er → di ρ R Er →
      (∀ (J : It) (ds : List PyData) (W' : List Addr) (ρ' : Env') (H' : Hp), R ds ρ' → (∀ x ∈ W', x ∈ W) → Ext W H H' → SOk X.K H0 W0 s W' σ ρ' H' → ItOk X.K J W' H' ds → Q J H') → wi σ H Q)
    (qg : ∀ (s : Option Addr) (H0 : Hp) (W0 W : List Addr) (σ : St) (ρ : Env') (H : Hp) (v : V) (d : PyData) (R : Env' → Prop) (Q : St → Hp → Prop), SOk X.K H0 W0 s W σ ρ H → Dw X.K H W v d → g d ρ R →
      (∀ (σ' : St) (ρ' : Env'), R ρ' → SOk X.K H0 W0 s W σ' ρ' H → (∀ vs : List Nat, (∀ i ∈ is, i ∈ vs) → wipe σ' vs = wipe σ vs) → Q σ' H) → g1 v σ H Q)
    (qt : ∀ (s : Option Addr) (H0 : Hp) (W0 W : List Addr) (σ : St) (ρ : Env') (H : Hp) (R : Bool → Env' → Prop) (Er : Er') (Q : Bool → Hp → Prop), SOk X.K H0 W0 s W σ ρ H → ErOk X.K H0 W0 s E0 Er → tt ρ R Er → BkT X.K H0 W0 s W σ H R Q → tt1 σ H Q)
    (qe : ∀ (s : Option Addr) (H0 : Hp) (W0 W : List Addr) (σ : St) (ρ : Env') (H : Hp) (R : PyData → Env' → Prop) (Er : Er') (Q : VK), SOk X.K H0 W0 s W σ ρ H → ErOk X.K H0 W0 s E0 Er → te ρ R Er → Bk X.K H0 W0 s W σ H R Q → te1 σ H Q)
    (his : ∀ i ∈ is, i ∈ own) (s : Option Addr) (H0 : Hp) (W0 W : List Addr) (σ : St) (ρ : Env') (H : Hp) (R : PyData → Env' → Prop) (Er : Er') (Q : VK) (S : SOk X.K H0 W0 s W σ ρ H) (eo : ErOk X.K H0 W0 s EX Er) (hd : dLc di g tt te own ρ R Er)
    (k : ∀ (p : Addr) (xs : List V) (ds : List PyData) (W' : List Addr) (ρ' : Env') (H' : Hp), R (.list ds) ρ' → (∀ x ∈ W', x ∈ p :: W) → Ext W H H' → SOk X.K H0 W0 s W' σ ρ' H' → Step W H W' H' → p ∈ W' → H0 p = none → H' p = some (.lst xs) → DwA X.K H' W' xs ds →
      (∀ (i : Nat) (es : List PyData), ρ'[i]? = some (some (D.own es)) → σ[i]? ≠ some (some (V.ref p))) → Q (.ref p) H') :
    tLc wi g1 tt1 te1 own σ H Q := by
  refine qi s H0 W0 W σ ρ H _ Er _ S eo hd fun J ds W1 ρ1 H1 hd1 s1 e1 S1 ok => ?_
  intro p hp
  have hp0 := S1.fresh0 hp
  have S2 : SOk X.K H0 W0 s (p :: W1) σ ρ1 (upd H1 p (.lst [])) := by
    have S2 := S1.alloc (o := .lst []) hp
    refine ⟨fun a ha => List.mem_cons_of_mem _ (S2.sub a ha), S2.tr0, fun a ha => ?_, fun a ha => ?_, S2.frame, S2.src, fun i d h => ?_, S2.uniq, S2.len⟩
    · rcases List.mem_cons.mp ha with rfl | ha
      · exact .inr hp0
      · exact S2.new a ha
    · rcases List.mem_cons.mp ha with rfl | ha
      · exact ⟨_, upd_same⟩
      · exact S2.tr a ha
    · obtain ⟨v, h1, h2⟩ := S1.slot i d h
      refine ⟨v, h1, ?_⟩
      cases d with
      | dat d => exact Dw.new hp h2
      | own ds =>
        obtain ⟨a, ys, rfl, r1, r2, r3, r4⟩ := h2
        exact ⟨a, ys, rfl, List.mem_cons_of_mem _ r1, r2, by rw [upd_ne (ne_of_none r3 hp)]; exact r3, DwA.new hp r4⟩
      | src => exact h2
      | scr ns =>
        obtain ⟨a, rfl, q⟩ := h2
        exact ⟨a, rfl, q.go fun o n h => ⟨by rw [upd_ne (ne_of_none h hp)]; exact h, by simp only [List.mem_cons, not_or]; exact ⟨ne_of_none h hp, n⟩⟩⟩
  have no0 : ∀ (i : Nat) (es : List PyData), ρ1[i]? = some (some (D.own es)) → σ[i]? ≠ some (some (V.ref p)) := fun i es h e => by
    obtain ⟨v, h1, a, ys, rfl, r1, r2, r3, r4⟩ := S1.slot i _ h
    rw [e] at h1
    cases h1
    rw [hp] at r3
    cases r3
  have hsp : s ≠ some p := fun e => by
    obtain ⟨_, _, x, y, q, _⟩ := S1.src p e
    rw [hp] at q
    cases q
  have hs0 : ∀ a, s = some a → a ∈ W0 ∧ ∃ o, H0 a = some o := fun a ha => ⟨(S1.src a ha).1, (S1.src a ha).2.1⟩
  have st0 : Step W H W1 H1 := Step.of s1 e1
  have st1 : Step W1 H1 (p :: W1) (upd H1 p (.lst [])) := ⟨Ext.same (same_upd hp), fun x hx => by
    rcases List.mem_cons.mp hx with rfl | hx
    · exact .inr hp
    · exact .inl hx⟩
  have fin : ∀ (W2 : List Addr) (H2 : Hp), Ext (p :: W1) (upd H1 p (.lst [])) H2 → Ext W1 H1 H2 := fun W2 H2 e b o n h => e b o (by simp only [List.mem_cons, not_or]; exact ⟨ne_of_none h hp, n⟩) (by rw [upd_ne (ne_of_none h hp)]; exact h)
  refine ⟨fun i m H' => ∃ W' acc xs ρ', i + m = ds.length ∧ (∀ x ∈ W', x ∈ p :: W1) ∧ Ext (p :: W1) (upd H1 p (.lst [])) H' ∧ p ∈ W' ∧ H' p = some (.lst xs) ∧ DwA X.K H' W' xs acc ∧ SOk X.K H0 W0 s W' (wipe σ own) ρ' H' ∧
      (∀ i d, ρ'[i]? = some (some d) → i ∉ own) ∧ (∀ (i : Nat) (es : List PyData), ρ'[i]? = some (some (D.own es)) → σ[i]? ≠ some (some (V.ref p))) ∧ lcGo g tt te own (fun acc ρ2 => R (.list acc) ρ2) (ds.drop i) acc ρ',
    ⟨ds.length, p :: W1, [], [], wipeD ρ1 own, by omega, fun _ z => z, Ext.refl _ _, List.mem_cons_self, upd_same, .nil, S2.wipe own, fun i d h => (wipeD_get h).2, fun i es h => no0 i es (wipeD_get h).1, hd1⟩, ?_⟩
  rintro i m H2 ⟨W2, acc, xs, ρ2, hm, sb2, ex2, pw2, hp2, qa2, S3, nw2, no2, f2⟩
  have st2 : Step (p :: W1) (upd H1 p (.lst [])) W2 H2 := Step.of sb2 ex2
  by_cases hlt : i < ds.length
  · have hdi : ds[i]? = some ds[i] := List.getElem?_eq_getElem hlt
    rw [List.drop_eq_getElem_cons hlt] at f2
    obtain ⟨ok1, ok2⟩ := ok.go i W2 H2 _ (st1.trans st2) hdi
    refine .inr ⟨ok1, fun H' => ∃ W' acc xs ρ', (∀ x ∈ W', x ∈ p :: W1) ∧ Ext (p :: W1) (upd H1 p (.lst [])) H' ∧ p ∈ W' ∧ H' p = some (.lst xs) ∧ DwA X.K H' W' xs acc ∧ SOk X.K H0 W0 s W' (wipe σ own) ρ' H' ∧
      (∀ i d, ρ'[i]? = some (some d) → i ∉ own) ∧ (∀ (i : Nat) (es : List PyData), ρ'[i]? = some (some (D.own es)) → σ[i]? ≠ some (some (V.ref p))) ∧ lcGo g tt te own (fun acc ρ2 => R (.list acc) ρ2) (ds.drop (i + 1)) acc ρ',
      fun H' h => ?_, fun x H3 y => ?_⟩
    · obtain ⟨W', acc', xs', ρ', h⟩ := h
      exact ⟨m - 1, by omega, W', acc', xs', ρ', by omega, h⟩
    · obtain ⟨sm, dx⟩ := ok2 x H3 y
      have hp3 : H3 p = some (.lst xs) := sm p _ hp2
      have S4 := (S3.same sm).lift hp0 hp3 pw2 fun i es h e => no2 i es h (by rw [wipe_get] at e; split at e; · cases hq : σ[i]? <;> rw [hq] at e <;> cases e
                                                                              · exact e)
      refine qg s _ _ W2 (wipe σ own) ρ2 H3 x _ _ _ S4 dx f2 fun σ5 ρ5 f5 S5 w5 => ?_
      refine ⟨(w5 own his).trans (List.ext_getElem? fun j => by rw [wipe_get, wipe_get]; split <;> rename_i hj; · cases σ[j]? <;> rfl
                                                                · rfl), ?_⟩
      have wS : wipe σ5 own = wipe σ own := (w5 own his).trans (List.ext_getElem? fun j => by rw [wipe_get, wipe_get]; split <;> rename_i hj; · cases σ[j]? <;> rfl
                                                                                              · rfl)
      refine qt s _ _ W2 σ5 ρ5 H3 _ noEr _ S5 erOk_no f5 fun b W6 ρ6 H6 f6 s6 e6 S6 => ?_
      have ex6 : Ext (p :: W1) (upd H1 p (.lst [])) H6 := (ex2.trans (Ext.same sm)).trans (e6.sub sb2)
      cases b with
      | true =>
        refine iteT (qe s _ _ W6 σ5 ρ6 H6 _ noEr _ S6 erOk_no f6 fun v dv W7 ρ7 H7 f7 s7 e7 S7 w7 => ?_)
        obtain ⟨S8, pw8, hp8, no8⟩ := S7.drop hp0 S1.tr0 hsp hs0
        have ex7 : Ext (p :: W1) (upd H1 p (.lst [])) H7 := ex6.trans (e7.sub fun x hx => sb2 x (s6 x hx))
        have qa7 : DwA X.K H7 W7 xs acc := ((Step.of (fun _ z => z) (Ext.same sm) : Step W2 H2 W2 H3).trans ((Step.of s6 e6).trans (Step.of s7 e7))).dwA qa2
        refine ⟨xs, hp8, Nat.lt_of_lt_of_le (by rw [qa7.length]; exact f7.1) (big_le (Nat.le_refl _)), ?_⟩
        -- the list has one more
        have exu : Ext W7 H7 (upd H7 p (.lst (xs ++ [v]))) := fun b o n h => by rw [upd_ne (fun e => n (by rw [e]; exact pw8))]; exact h
        have S9 : SOk X.K H0 W0 s W7 σ5 ρ7 (upd H7 p (.lst (xs ++ [v]))) := by
          refine ⟨S8.sub, S8.tr0, S8.new, fun a ha => ?_, fun b o h n => ?_, fun a ha => ⟨(S8.src a ha).1, (S8.src a ha).2.1, ?_⟩, fun j d hj => ?_, S8.uniq, S8.len⟩
          · by_cases e : a = p
            · rw [e]; exact ⟨_, upd_same⟩
            · rw [upd_ne e]; exact S8.tr a ha
          · rw [upd_ne (ne_of_none h hp0)]; exact S8.frame b o h n
          · exact (S8.src a ha).2.2.stay fun o h => by rw [upd_ne (fun e => hsp (by rw [ha, e]))]; exact h
          · obtain ⟨u, h1, h2⟩ := S8.slot j d hj
            refine ⟨u, h1, ?_⟩
            cases d with
            | dat d => exact h2.to exu fun _ z => z
            | own es =>
              obtain ⟨a, ys, rfl, r1, r2, r3, r4⟩ := h2
              exact ⟨a, ys, rfl, r1, r2, by rw [upd_ne (fun e => no8 j es hj (by rw [h1, e]))]; exact r3, r4.to exu fun _ z => z⟩
            | src => exact h2
            | scr ns =>
              obtain ⟨a, rfl, q⟩ := h2
              exact ⟨a, rfl, q.go fun o n h => ⟨exu a o n h, n⟩⟩
        have S10 := S9.wipe own
        rw [wS] at S10
        refine ⟨W7, acc ++ [dv], xs ++ [v], wipeD ρ7 own, fun x hx => sb2 x (s6 x (s7 x hx)), fun b o n h => ?_, pw8, upd_same, (qa7.append (.cons w7 .nil)).to exu fun _ z => z, S10, fun j d h => (wipeD_get h).2, fun j es h e => ?_, f7.2⟩
        · rw [upd_ne (fun e => n (by rw [e]; exact List.mem_cons_self))]
          exact ex7 b o n h
        · obtain ⟨h1, h2⟩ := wipeD_get h
          refine no8 j es h1 ?_
          have := congrArg (fun l => l[j]?) wS
          simp only [wipe_get, if_neg h2] at this
          rw [this]; exact e
      | false =>
        obtain ⟨S8, pw8, hp8, no8⟩ := S6.drop hp0 S1.tr0 hsp hs0
        have qa7 : DwA X.K H6 W6 xs acc := ((Step.of (fun _ z => z) (Ext.same sm) : Step W2 H2 W2 H3).trans (Step.of s6 e6)).dwA qa2
        have S10 := S8.wipe own
        rw [wS] at S10
        refine iteF ⟨W6, acc, xs, wipeD ρ6 own, fun x hx => sb2 x (s6 x hx), ex6, pw8, hp8, qa7, S10, fun j d h => (wipeD_get h).2, fun j es h e => ?_, f6⟩
        obtain ⟨h1, h2⟩ := wipeD_get h
        refine no8 j es h1 ?_
        have := congrArg (fun l => l[j]?) wS
        simp only [wipe_get, if_neg h2] at this
        rw [this]; exact e
  · refine .inl ⟨ok.stop i W2 H2 (st1.trans st2) (by omega), ?_⟩
    rw [List.drop_eq_nil_of_le (by omega)] at f2
    have S4 := S3.unwipe nw2
    refine k p xs acc W2 ρ2 H2 f2 (fun x hx => ?_) (ext_tr e1 (fin W2 H2 ex2) s1) S4 (st0.trans (st1.trans st2)) pw2 hp0 hp2 qa2 no2
    rcases List.mem_cons.mp (sb2 x hx) with e | hx
    · exact List.mem_cons.mpr (.inl e)
    · exact List.mem_cons_of_mem _ (s1 x hx)
end
end DD

/-! Comprehensions as expressions and as own lists; a def by its body. -/
namespace DD
open PySem L2
section
variable {X : Cx} {EX : XK} {e tg iter elt : Expr} {da : DE} {pos : Pos}
/-- the ends of a comprehension: nobody owns the list -/
theorem lc_done {K : Fg} {H0 H' : Hp} {W0 W W' : List Addr} {s : Option Addr} {σ : St} {ρ' : Env'} {p : Addr} {xs : List V} {ds : List PyData} (sb : ∀ x ∈ W', x ∈ p :: W) (S : SOk K H0 W0 s W' σ ρ' H') (pw : p ∈ W') (hp0 : H0 p = none) (hp : H' p = some (.lst xs)) (q : DwA K H' W' xs ds)
    (no : ∀ (i : Nat) (es : List PyData), ρ'[i]? = some (some (D.own es)) → σ[i]? ≠ some (some (V.ref p))) :
    ∃ W2, (∀ x ∈ W2, x ∈ W) ∧ SOk K H0 W0 s W2 σ ρ' H' ∧ Dw K H' W2 (.ref p) (.list ds) := by
  have sub' : ∀ x ∈ W'.filter (fun b => decide (b ≠ p)), x ∈ W' := fun x hx => (List.mem_filter.mp hx).1
  have np : p ∉ W'.filter (fun b => decide (b ≠ p)) := fun z => by
    have := (List.mem_filter.mp z).2
    simp at this
  have p0 : p ∉ W0 := fun z => by
    obtain ⟨o, e⟩ := S.tr0 p z
    rw [hp0] at e; cases e
  refine ⟨W'.filter fun b => decide (b ≠ p), fun x hx => ?_, ⟨fun x hx => List.mem_filter.mpr ⟨S.sub x hx, by simp; rintro rfl; exact p0 hx⟩, S.tr0, fun x hx => S.new x (sub' x hx), fun x hx => S.tr x (sub' x hx), S.frame, S.src, fun j d hj => ?_, S.uniq, S.len⟩, .lst np hp (q.to (Ext.refl _ _) sub')⟩
  · rcases List.mem_cons.mp (sb x (sub' x hx)) with e | h
    · subst e; exact absurd hx np
    · exact h
  · obtain ⟨v, e1, e2⟩ := S.slot j d hj
    refine ⟨v, e1, ?_⟩
    cases d with
    | dat d => exact e2.to (Ext.refl _ _) sub'
    | own es =>
      obtain ⟨b, ys, rfl, r1, r2, r3, r4⟩ := e2
      exact ⟨b, ys, rfl, List.mem_filter.mpr ⟨r1, by simp; rintro rfl; exact no j es hj e1⟩, r2, r3, r4.to (Ext.refl _ _) sub'⟩
    | src => exact e2
    | scr ns =>
      obtain ⟨b, rfl, q⟩ := e2
      exact ⟨b, rfl, q.go fun o n h => ⟨h, fun z => n (sub' _ z)⟩⟩
abbrev BlkX (X : Cx) (scope : Scope) (s : Shared) (H : Hp) (C : Addr) (cl : List (Str × Addr)) (fp : List Addr) : Cx := X.blk s H scope (compEnvC scope cl C X.env) fp
theorem de_lc {ifs : List Expr} {scope : Scope} {own : List (Str × Nat)} {di : DI} {is : List Nat} {g : DG} {tt : DT} {te : DE} {g1 : TG} {tt1 : TT} {te1 : TE} (hc : X.calm = true) (hN : X.N.Nodup) (hi : DIx X EX tg iter di) (ok : BlkOk X.N X.env.scope scope own)
    (hg : ∀ (s : Shared) (H : Hp) (C : Addr) (cl : List (Str × Addr)) (fp : List Addr), PG (BlkX X scope s H C cl fp) tg g1) (ht : ∀ (s : Shared) (H : Hp) (C : Addr) (cl : List (Str × Addr)) (fp : List Addr), PTs (BlkX X scope s H C cl fp) ifs tt1)
    (he : ∀ (s : Shared) (H : Hp) (C : Addr) (cl : List (Str × Addr)) (fp : List Addr), PE (BlkX X scope s H C cl fp) elt te1)
    (qg : ∀ (s : Option Addr) (H0 : Hp) (W0 W : List Addr) (σ : St) (ρ : Env') (H : Hp) (v : V) (d : PyData) (R : Env' → Prop) (Q : St → Hp → Prop), SOk X.K H0 W0 s W σ ρ H → Dw X.K H W v d → g d ρ R →
      (∀ (σ' : St) (ρ' : Env'), R ρ' → SOk X.K H0 W0 s W σ' ρ' H → (∀ vs : List Nat, (∀ i ∈ is, i ∈ vs) → wipe σ' vs = wipe σ vs) → Q σ' H) → g1 v σ H Q)
    (qt : ∀ (s : Option Addr) (H0 : Hp) (W0 W : List Addr) (σ : St) (ρ : Env') (H : Hp) (R : Bool → Env' → Prop) (Er : Er') (Q : Bool → Hp → Prop), SOk X.K H0 W0 s W σ ρ H → ErOk X.K H0 W0 s E0 Er → tt ρ R Er → BkT X.K H0 W0 s W σ H R Q → tt1 σ H Q)
    (qe : ∀ (s : Option Addr) (H0 : Hp) (W0 W : List Addr) (σ : St) (ρ : Env') (H : Hp) (R : PyData → Env' → Prop) (Er : Er') (Q : VK), SOk X.K H0 W0 s W σ ρ H → ErOk X.K H0 W0 s E0 Er → te ρ R Er → Bk X.K H0 W0 s W σ H R Q → te1 σ H Q)
    (his : ∀ i ∈ is, i ∈ own.map (·.2)) (hs : ∀ x, foldedSetIterable iter X.env x = pure x := by intro _; rfl) : DEx X EX (.ListComp elt [⟨tg, iter, ifs, 0⟩] scope pos) (dLc di g tt te (own.map (·.2))) := by
  obtain ⟨wi, pi, qi⟩ := hi.ex
  refine ⟨_, pe_lc hc hN pi ok hg ht he hs, fun s H0 W0 W σ ρ H R Er Q S eo hd k => ?_⟩
  refine lc_sound (X := X) (EX := EX) qi qg qt qe his s H0 W0 W σ ρ H R Er Q S eo hd fun p xs ds W' ρ' H' hR sb ex S' st pw hp0 hp q no => ?_
  obtain ⟨W2, s2, S2, w2⟩ := lc_done sb S' pw hp0 hp q no
  exact k _ _ W2 ρ' H' hR s2 ex S2 w2
/-! ### lists of one's own -/
/-- a slot takes a new list -/
theorem SOk.setOwn {K : Fg} {H0 H : Hp} {W0 W : List Addr} {s : Option Addr} {σ : St} {ρ : Env'} {p : Addr} {xs : List V} {ds : List PyData} (S : SOk K H0 W0 s W σ ρ H) {i : Nat} (pw : p ∈ W) (hp0 : H0 p = none) (hp : H p = some (.lst xs)) (q : DwA K H W xs ds)
    (no : ∀ (j : Nat) (es : List PyData), ρ[j]? = some (some (D.own es)) → σ[j]? ≠ some (some (V.ref p))) : SOk K H0 W0 s W (σ.set i (some (.ref p))) (ρ.set i (some (.own ds))) H := by
  refine ⟨S.sub, S.tr0, S.new, S.tr, S.frame, S.src, fun j e hj => ?_, fun j k u es fs h1 h2 h3 h4 => ?_, by simp [S.len]⟩
  · by_cases z : i = j
    · subst z
      have hi : i < ρ.length := by simpa using (List.getElem?_eq_some_iff.mp hj).1
      rw [List.getElem?_set_self hi] at hj
      cases hj
      exact ⟨_, by rw [List.getElem?_set_self (by rw [S.len]; exact hi)], p, xs, rfl, pw, hp0, hp, q⟩
    · rw [List.getElem?_set_ne z] at hj
      rw [List.getElem?_set_ne z]
      exact S.slot j e hj
  · by_cases a1 : i = j
    · by_cases a2 : i = k
      · exact a1.symm.trans a2
      · subst a1
        have hi : i < σ.length := by simpa using (List.getElem?_eq_some_iff.mp h3).1
        rw [List.getElem?_set_self hi] at h3
        cases h3
        rw [List.getElem?_set_ne a2] at h2 h4
        exact absurd h4 (no k fs h2)
    · rw [List.getElem?_set_ne a1] at h1 h3
      by_cases a2 : i = k
      · subst a2
        have hi : i < σ.length := by simpa using (List.getElem?_eq_some_iff.mp h4).1
        rw [List.getElem?_set_self hi] at h4
        cases h4
        exact absurd h3 (no j es h1)
      · rw [List.getElem?_set_ne a2] at h2 h4
        exact S.uniq j k u es fs h1 h2 h3 h4
/-- a new list comes into being, somebody's -/
theorem SOk.newOwn {K : Fg} {H0 H : Hp} {W0 W : List Addr} {s : Option Addr} {σ : St} {ρ : Env'} (S : SOk K H0 W0 s W σ ρ H) {p : Addr} {xs : List V} (hp : H p = none) : SOk K H0 W0 s (p :: W) σ ρ (L2.upd H p (.lst xs)) ∧
    (∀ (j : Nat) (es : List PyData), ρ[j]? = some (some (D.own es)) → σ[j]? ≠ some (some (V.ref p))) := by
  have S2 := S.alloc (o := .lst xs) hp
  refine ⟨⟨fun a ha => List.mem_cons_of_mem _ (S2.sub a ha), S2.tr0, fun a ha => ?_, fun a ha => ?_, S2.frame, S2.src, fun i d h => ?_, S2.uniq, S2.len⟩, fun i es h e => ?_⟩
  · rcases List.mem_cons.mp ha with rfl | ha
    · exact .inr (S.fresh0 hp)
    · exact S2.new a ha
  · rcases List.mem_cons.mp ha with rfl | ha
    · exact ⟨_, upd_same⟩
    · exact S2.tr a ha
  · obtain ⟨v, h1, h2⟩ := S.slot i d h
    refine ⟨v, h1, ?_⟩
    cases d with
    | dat d => exact Dw.new hp h2
    | own ds =>
      obtain ⟨a, ys, rfl, r1, r2, r3, r4⟩ := h2
      exact ⟨a, ys, rfl, List.mem_cons_of_mem _ r1, r2, by rw [upd_ne (ne_of_none r3 hp)]; exact r3, DwA.new hp r4⟩
    | src => exact h2
    | scr ns =>
      obtain ⟨a, rfl, q⟩ := h2
      exact ⟨a, rfl, q.go fun o n h => ⟨by rw [upd_ne (ne_of_none h hp)]; exact h, by simp only [List.mem_cons, not_or]; exact ⟨ne_of_none h hp, n⟩⟩⟩
  · obtain ⟨v, h1, a, ys, rfl, r1, r2, r3, r4⟩ := S.slot i _ h
    rw [e] at h1
    cases h1
    rw [hp] at r3
    cases r3
theorem step_new {W : List Addr} {H : Hp} {p : Addr} {o : HO} (hp : H p = none) : Step W H (p :: W) (L2.upd H p o) := ⟨Ext.same (same_upd hp), fun x hx => by
  rcases List.mem_cons.mp hx with rfl | hx
  · exact .inr hp
  · exact .inl hx⟩
/-- name = [a, ..], the def's own list -/
def sSetO (i : Nat) (a : DA) : DS := fun D ρ Er => a ρ (fun ds ρ1 => ds.length ≤ big ∧ D.nx (ρ1.set i (some (.own ds)))) Er
theorem ds_setO {i : Nat} {x : Str} {pos' p2 : Pos} {es : List Expr} {d : DA} (mk : ∀ te, PE X (.List es p2) te → PS X (.Assign [.Name x pos'] (.List es p2) pos) (tAsg te (gName i))) (ha : DAx X EX es d) : DSx X EX (.Assign [.Name x pos'] (.List es p2) pos) (sSetO i d) := by
  obtain ⟨t, p, q⟩ := ha.ex
  refine ⟨_, mk _ (pe_lst p), fun s H0 W0 W σ ρ H D Er E S eo hd k => ?_⟩
  refine q s H0 W0 W σ ρ H _ Er _ S eo hd fun vs ds W1 ρ1 H1 hd1 s1 e1 S1 w1 => ⟨big_le (by rw [w1.length]; exact hd1.1), fun a ha => ?_⟩
  obtain ⟨S2, no⟩ := S1.newOwn (xs := vs) ha
  exact k.nx _ _ _ _ hd1.2 ((Step.of s1 e1).trans (step_new ha)) (S2.setOwn List.mem_cons_self (S1.fresh0 ha) upd_same (DwA.new ha w1) no)
/-- an own list changes -/
theorem SOk.changeOwn {K : Fg} {H0 H : Hp} {W0 W : List Addr} {s : Option Addr} {σ : St} {ρ : Env'} (S : SOk K H0 W0 s W σ ρ H) {i : Nat} {ds : List PyData} (hi : ρ[i]? = some (some (.own ds))) :
    ∃ a xs, σ[i]? = some (some (.ref a)) ∧ a ∈ W ∧ H0 a = none ∧ H a = some (.lst xs) ∧ DwA K H W xs ds ∧ ∀ (ys : List V) (es : List PyData), DwA K H W ys es →
      SOk K H0 W0 s W σ (ρ.set i (some (.own es))) (L2.upd H a (.lst ys)) ∧ Ext W H (L2.upd H a (.lst ys)) := by
  obtain ⟨v, h1, a, xs, rfl, q1, q2, q3, q4⟩ := S.slot i _ hi
  refine ⟨a, xs, h1, q1, q2, q3, q4, fun ys es q => ?_⟩
  have ex : Ext W H (L2.upd H a (.lst ys)) := fun b o n h => by rw [upd_ne (fun e => n (by rw [e]; exact q1))]; exact h
  have hil : i < ρ.length := (List.getElem?_eq_some_iff.mp hi).1
  refine ⟨⟨S.sub, S.tr0, S.new, fun b hb => ?_, fun b o h n => ?_, fun b hb => ⟨(S.src b hb).1, (S.src b hb).2.1, (S.src b hb).2.2.stay fun o h => ?_⟩, fun j d hj => ?_, fun j k v fs gs g1 g2 g3 g4 => ?_, by simp [S.len]⟩, ex⟩
  · by_cases e : b = a
    · rw [e]; exact ⟨_, upd_same⟩
    · rw [upd_ne e]; exact S.tr b hb
  · rw [upd_ne (ne_of_none h q2)]; exact S.frame b o h n
  · obtain ⟨_, ⟨o', h'⟩, _⟩ := S.src b hb
    rw [upd_ne (ne_of_none h' q2)]; exact h
  · by_cases z : i = j
    · subst z
      rw [List.getElem?_set_self hil] at hj
      cases hj
      exact ⟨_, h1, a, ys, rfl, q1, q2, upd_same, q.to ex fun _ z => z⟩
    · rw [List.getElem?_set_ne z] at hj
      obtain ⟨u, e1, e2⟩ := S.slot j d hj
      refine ⟨u, e1, ?_⟩
      cases d with
      | dat d => exact e2.to ex fun _ z => z
      | own fs =>
        obtain ⟨b, zs, rfl, r1, r2, r3, r4⟩ := e2
        refine ⟨b, zs, rfl, r1, r2, ?_, r4.to ex fun _ z => z⟩
        rw [upd_ne (fun e => z (S.uniq i j _ _ _ hi hj h1 (by rw [e1, e])))]
        exact r3
      | src => exact e2
      | scr ns =>
        obtain ⟨b, rfl, q⟩ := e2
        exact ⟨b, rfl, q.go fun o n h => ⟨ex b o n h, n⟩⟩
  · have gg : ∀ {j : Nat} {fs : List PyData}, (ρ.set i (some (D.own es)))[j]? = some (some (.own fs)) → ∃ fs', ρ[j]? = some (some (.own fs')) := fun {j fs} g => by
      by_cases z : i = j
      · subst z; exact ⟨_, hi⟩
      · rw [List.getElem?_set_ne z] at g; exact ⟨_, g⟩
    obtain ⟨_, a1⟩ := gg g1
    obtain ⟨_, a2⟩ := gg g2
    exact S.uniq j k v _ _ a1 a2 g3 g4
/-- name.append(e) -/
def sApp (i : Nat) (a : DE) : DS := fun D ρ Er => (∃ ds, ρ[i]? = some (some (.own ds))) ∧ a ρ (fun d ρ1 => match ρ1[i]? with
  | some (some (.own ds)) => ds.length < big ∧ D.nx (ρ1.set i (some (.own (ds ++ [d]))))
  | _ => False) Er
theorem tyV_own {K : Fg} {H : Hp} {a : Addr} {xs : List V} (h : H a = some (.lst xs)) : tyV K "list" (.ref a) H := .inl ⟨rfl, _, SqL.of h⟩
theorem ds_app {i : Nat} {y : Str} {py p1 p2 : Pos} (hv : PE X (.Name y py) (tVar i)) (ha : DEx X EX e da) (hs : swapsWith (.Call (.Attribute (.Name y py) "append" p1) [e] [] p2) none pos.line X.env = pure false := by rfl) (h1 : starEach [e] X.env = (false, eval e X.env) :: starEach [] X.env := by rfl)
    (mk : ∀ t, PE X e t → PE X (.Call (.Attribute (.Name y py) "append" p1) [e] [] p2) (tBM X.K "list" rAppend (tVar i) (tCons t tNil))) : DSx X EX (.Expr (.Call (.Attribute (.Name y py) "append" p1) [e] [] p2) pos) (sApp i da) := by
  obtain ⟨t, p, q⟩ := ha.ex
  refine ⟨_, ps_expr (mk t p) hs, fun s H0 W0 W σ ρ H D Er E S eo hd k => ?_⟩
  obtain ⟨⟨ds0, hi0⟩, hd⟩ := hd
  obtain ⟨a, xs, h1, _, _, h2, _⟩ := S.changeOwn hi0
  refine ⟨_, h1, tyV_own h2, q s H0 W0 W σ ρ H _ Er _ S eo hd fun v d W1 ρ1 H1 hd1 s1 e1 S1 w1 => ?_⟩
  split at hd1
  · rename_i ds hi
    obtain ⟨a', xs', g1, gw, g0, g2, g3, gg⟩ := S1.changeOwn hi
    rw [h1] at g1
    cases g1
    obtain ⟨S2, ex⟩ := gg (xs' ++ [v]) (ds ++ [d]) (g3.append (.cons w1 .nil))
    exact ⟨a, xs', v, rfl, rfl, g2, Nat.lt_of_lt_of_le (by rw [g3.length]; exact hd1.1) (big_le (Nat.le_refl _)), k.nx W1 σ _ _ hd1.2 (Step.of s1 (e1.trans (ex.sub s1))) S2⟩
  · exact hd1.elim
/-- name.pop(e), an index from nought on -/
def dPop (i : Nat) (a : DE) : DE := fun ρ R Er => (∃ ds, ρ[i]? = some (some (.own ds))) ∧ a ρ (fun d ρ1 => match d, ρ1[i]? with
  | .int j, some (some (.own ds)) => 0 ≤ j ∧ j < 1000000 ∧ ∃ z, ds[j.toNat]? = some z ∧ R z (ρ1.set i (some (.own (ds.eraseIdx j.toNat))))
  | _, _ => False) Er
theorem de_pop {i : Nat} {y : Str} {py p1 : Pos} (hv : PE X (.Name y py) (tVar i)) (ha : DEx X EX e da)
    (mk : ∀ t, PE X e t → PE X (.Call (.Attribute (.Name y py) "pop" p1) [e] [] pos) (tBM X.K "list" rPopAt (tVar i) (tCons t tNil))) : DEx X EX (.Call (.Attribute (.Name y py) "pop" p1) [e] [] pos) (dPop i da) := by
  obtain ⟨t, p, q⟩ := ha.ex
  refine ⟨_, mk t p, fun s H0 W0 W σ ρ H R Er Q S eo hd k => ?_⟩
  obtain ⟨⟨ds0, hi0⟩, hd⟩ := hd
  obtain ⟨a, xs, h1, _, _, h2, _⟩ := S.changeOwn hi0
  refine ⟨_, h1, tyV_own h2, q s H0 W0 W σ ρ H _ Er _ S eo hd fun v d W1 ρ1 H1 hd1 s1 e1 S1 w1 => ?_⟩
  split at hd1
  · rename_i j ds hi
    obtain ⟨b0, b1, z, hz, hR⟩ := hd1
    cases w1
    obtain ⟨a', xs', g1, gw, g0, g2, g3, gg⟩ := S1.changeOwn hi
    rw [h1] at g1
    cases g1
    obtain ⟨u, hu, du⟩ := g3.get hz
    obtain ⟨S2, ex⟩ := gg (xs'.eraseIdx j.toNat) (ds.eraseIdx j.toNat) (g3.erase _)
    have hlt : j.toNat < xs'.length := (List.getElem?_eq_some_iff.mp hu).1
    refine ⟨a, xs', j, j.toNat, u, rfl, rfl, g2, by omega, by omega, ?_, hu, k u z W1 _ _ hR s1 (e1.trans (ex.sub s1)) S2 (du.to ex fun _ z => z)⟩
    have hq : ixN xs'.length j = some j.toNat := by
      unfold ixN
      rw [if_pos b0, if_pos (by omega)]
    exact (ixN_seq hq).1
  · exact hd1.elim
/-- len(name), name an own list -/
def dLenO (i : Nat) : DE := fun ρ R _ => match ρ[i]? with
  | some (some (.own ds)) => R (.int ds.length) ρ
  | some (some (.scr ns)) => R (.int ns.length) ρ
  | _ => False
theorem de_lenO {i : Nat} {y : Str} {py p : Pos} (hv : PE X (.Name y py) (tVar i)) (mk : ∀ t, PE X (.Name y py) t → PE X (.Call (.Name "len" p) [.Name y py] [] pos) (tCB (fun xs H Q => ∃ p ys, xs = [.ref p] ∧ (SqL X.K H p ys ∨ SqT X.K H p ys) ∧ Q (.int ys.length) H) (tCons t tNil))) :
    DEx X EX (.Call (.Name "len" p) [.Name y py] [] pos) (dLenO i) := by
  refine ⟨_, mk _ hv, fun s H0 W0 W σ ρ H R Er Q S eo hd k => ?_⟩
  unfold dLenO at hd
  split at hd
  · rename_i ds hi
    obtain ⟨a, xs, h1, _, _, h2, h3, _⟩ := S.changeOwn hi
    exact ⟨_, h1, a, xs, rfl, .inl (SqL.of h2), by rw [h3.length]; exact k _ _ W ρ H hd (fun _ z => z) (Ext.refl _ _) S (.int _)⟩
  · rename_i ns hi
    obtain ⟨v, h1, a, rfl, q⟩ := S.slot i _ hi
    exact ⟨_, h1, a, ns.map V.int, rfl, .inl q.sq, by rw [List.length_map]; exact k _ _ W ρ H hd (fun _ z => z) (Ext.refl _ _) S (.int _)⟩
  · exact hd.elim
/-- name != e, name an own list -/
def dTNeO (i : Nat) (b : DE) : DT := fun ρ R Er => (∃ ds, ρ[i]? = some (some (.own ds))) ∧ b ρ (fun y ρ1 => match ρ1[i]? with
  | some (some (.own ds)) => SeqAt.shaped (.list ds) = true ∧ SeqAt.shaped y = true ∧ R (!PyData.eqv (.list ds) y) ρ1
  | _ => False) Er
theorem dt_neO {i : Nat} {y : Str} {py : Pos} {b : Expr} {db : DE} (hu : X.A.units + 64 < cLine) (hv : PE X (.Name y py) (tVar i)) (hb : DEx X EX b db) : DTx X EX (.Compare (.Name y py) [.NotEq] [b] pos) (dTNeO i db) := by
  obtain ⟨t, p, q⟩ := hb.ex
  refine ⟨_, pt_cmpR (op_neW hu) hv p (nomark _), fun s H0 W0 W σ ρ H R Er Q S eo hd k => ?_⟩
  obtain ⟨⟨ds0, hi0⟩, hd⟩ := hd
  obtain ⟨a, xs, h1, _⟩ := S.changeOwn hi0
  refine ⟨_, h1, q s H0 W0 W σ ρ H _ Er _ S eo hd fun v d W1 ρ1 H1 hd1 s1 e1 S1 w1 => ?_⟩
  split at hd1
  · rename_i ds hi
    obtain ⟨a', xs', g1, gw, g0, g2, g3, gg⟩ := S1.changeOwn hi
    rw [h1] at g1
    cases g1
    exact ⟨[], _, _, .lst (by simp) g2 (g3.to (Ext.refl _ _) fun _ z => absurd z (by simp)), w1.to (Ext.refl _ _) (fun _ z => absurd z (by simp)), hd1.1, hd1.2.1, _, rfl, k _ W1 ρ1 H1 hd1.2.2 s1 e1 S1⟩
  · exact hd1.elim
end
/-! ### a def by its body -/
open PyProof.Rows (envOfC)
def startD (n : Nat) (ds : List PyData) : Env' := ds.map (fun d => some (.dat d)) ++ List.replicate (n - ds.length) none
def startS (n : Nat) (ds : List PyData) : Env' := some .src :: (ds.map (fun d => some (.dat d)) ++ List.replicate (n - (ds.length + 1)) none)
theorem start_ok {K : Fg} {H : Hp} {W : List Addr} {vs : List V} {ds : List PyData} {n : Nat} {s : Option Addr} {W0 : List Addr} {H0 : Hp} (q : DwA K H W vs ds) (i : Nat) (d : D) (h : (startD n ds)[i]? = some (some d)) : ∃ v, (vs.map some ++ List.replicate (n - vs.length) none)[i]? = some (some v) ∧ SlotV K H0 s W H v d := by
  unfold startD at h
  have hl : i < ds.length := by
    by_cases hl : i < ds.length
    · exact hl
    · rw [List.getElem?_append_right (by simpa using hl), List.getElem?_replicate] at h
      split at h <;> cases h
  rw [List.getElem?_append_left (by simpa using hl), List.getElem?_map, List.getElem?_eq_getElem hl] at h
  cases h
  obtain ⟨v, h1, h2⟩ := q.get (List.getElem?_eq_getElem hl)
  exact ⟨v, by rw [List.getElem?_append_left (by simpa using (List.getElem?_eq_some_iff.mp h1).1), List.getElem?_map, h1]; rfl, h2⟩
section
variable {P : Program} {w : World} {K : Fg} {mg : Str → Option Value} {base : Heap}
/-- THE RULE: a def of data, by its body -/
theorem fun_d {CX : CXT} {x qual : Str} {st : Stmt} {f : Addr} {fd : FuncData} {N ps : List Str} {k n : Nat} {fn : PF} (F : Fun K x qual st f fd) (S : FnScope N ps (defScope st)) (hn : ps.length = n)
    (h : ∀ (cdv : Value) (A : Around) (outer : List Env) (s : Shared) (H : Hp) (E : XK), Room k (A.deeper (envOfC qual (defScope st) s.heap.objs.size f cdv)) → A.guards = some [] →
      ∃ dt, DBx (cxOf CX P w K mg base N qual (defScope st) f cdv A outer s H E) E (defBody st) dt ∧ ∀ ds R Er, ds.length = n → fn ds R Er → dt { nx := fun _ => R .none, rt := R } (startD N.length ds) Er) :
    FnG P w K mg base CX (k + 1) f fd ps (spD K n fn) := by
  obtain ⟨oc, od, kV, doc, pm, an, cdv, ct, osl, rfl, lk, hcd⟩ := F.ex
  refine fn_g lk hcd S (fun vs H Q E h => by rw [h.1, hn]) fun A outer s H vs Q E hr hgd hsp => ?_
  obtain ⟨dt, hb, hq⟩ := h cdv A outer s H E hr hgd
  obtain ⟨t, p, q⟩ := hb.ex
  obtain ⟨hl, W, ds, R, Er, hW, hd, hf, k1, k2⟩ := hsp
  refine ⟨t, p, ?_⟩
  have S0 : SOk K H W none W (L2.start N vs) (startD N.length ds) H := by
    refine ⟨fun _ z => z, hW, fun _ z => .inl z, hW, fun _ _ h _ => h, (fun _ z => nomatch z), fun i d h => start_ok (s := none) (W0 := W) (H0 := H) hd i d h, fun i j v es fs h1 => ?_, ?_⟩
    · exfalso
      unfold startD at h1
      by_cases hl : i < ds.length
      · rw [List.getElem?_append_left (by simpa using hl), List.getElem?_map, List.getElem?_eq_getElem hl] at h1; cases h1
      · rw [List.getElem?_append_right (by simpa using hl), List.getElem?_replicate] at h1
        split at h1 <;> cases h1
    · simp [L2.start, startD, hd.length]
  refine q none H W W (L2.start N vs) (startD N.length ds) H _ Er _ S0 k2 (hq ds R Er (by rw [← hd.length, hl]) hf) ⟨fun W' σ' ρ' H' h st S' => ?_, fun W' σ' ρ' H' v d h S' w' => ?_, fun _ _ _ _ h => h.elim, fun _ _ _ _ h => h.elim⟩
  · exact k1 .non .none H' h (fun b o hb => S'.frame b o hb (fun z => nomatch z)) .non
  · exact k1 v d H' h (fun b o hb => S'.frame b o hb (fun z => nomatch z)) (w'.to (Ext.refl _ _) S'.sub)
/-- .. of a source and data -/
theorem fun_s {CX : CXT} {x qual : Str} {st : Stmt} {f : Addr} {fd : FuncData} {N ps : List Str} {k n : Nat} {fn : PF} (F : Fun K x qual st f fd) (S : FnScope N ps (defScope st)) (hn : ps.length = n) (hN : 0 < N.length)
    (h : ∀ (cdv : Value) (A : Around) (outer : List Env) (s : Shared) (H : Hp) (E : XK), Room k (A.deeper (envOfC qual (defScope st) s.heap.objs.size f cdv)) → A.guards = some [] →
      ∃ dt, DBx (cxOf CX P w K mg base N qual (defScope st) f cdv A outer s H E) E (defBody st) dt ∧ ∀ ds R Er, ds.length + 1 = n → fn ds R Er → dt { nx := fun _ => R .none, rt := R } (startS N.length ds) Er) :
    FnG P w K mg base CX (k + 1) f fd ps (spS K n fn) := by
  obtain ⟨oc, od, kV, doc, pm, an, cdv, ct, osl, rfl, lk, hcd⟩ := F.ex
  refine fn_g lk hcd S (fun vs H Q E h => by rw [h.1, hn]) fun A outer s H vs Q E hr hgd hsp => ?_
  obtain ⟨dt, hb, hq⟩ := h cdv A outer s H E hr hgd
  obtain ⟨t, p, q⟩ := hb.ex
  obtain ⟨hl, a, vs', W, ds, R, Er, rfl, hW, haW, hsrc, hd, hf, k1, k2⟩ := hsp
  refine ⟨t, p, ?_⟩
  have e0 : L2.start N (V.ref a :: vs') = some (V.ref a) :: (vs'.map some ++ List.replicate (N.length - 1 - vs'.length) none) := by
    unfold L2.start
    simp only [List.map_cons, List.cons_append, List.length_cons]
    congr 3
    omega
  have e1 : startS N.length ds = some .src :: startD (N.length - 1) ds := by
    unfold startS startD
    congr 3
    omega
  have S0 : SOk K H W (some a) W (L2.start N (V.ref a :: vs')) (startS N.length ds) H := by
    rw [e0, e1]
    refine ⟨fun _ z => z, hW, fun _ z => .inl z, hW, fun _ _ h _ => h, fun b z => by cases z; exact ⟨haW, hW a haW, hsrc⟩, fun i d h => ?_, fun i j v es fs h1 => ?_, ?_⟩
    · cases i with
      | zero => simp at h; subst h; exact ⟨_, rfl, a, rfl, rfl⟩
      | succ i => exact start_ok (s := some a) (W0 := W) (H0 := H) hd i d (by simpa using h)
    · exfalso
      cases i with
      | zero => simp at h1
      | succ i =>
        rw [List.getElem?_cons_succ] at h1
        unfold startD at h1
        by_cases hl : i < ds.length
        · rw [List.getElem?_append_left (by simpa using hl), List.getElem?_map, List.getElem?_eq_getElem hl] at h1; cases h1
        · rw [List.getElem?_append_right (by simpa using hl), List.getElem?_replicate] at h1
          split at h1 <;> cases h1
    · simp [startD, hd.length]
  have hl' : ds.length + 1 = n := by rw [← hd.length]; simpa using hl
  refine q (some a) H W W _ _ H _ Er _ S0 k2 (hq ds R Er hl' hf) ⟨fun W' σ' ρ' H' h st S' => ?_, fun W' σ' ρ' H' v d h S' w' => ?_, fun _ _ _ _ h => h.elim, fun _ _ _ _ h => h.elim⟩
  · exact k1 .non .none H' h (fun b o hb h' => S'.frame b o h' hb) (S'.src a rfl).2.2 .non
  · exact k1 v d H' h (fun b o hb h' => S'.frame b o h' hb) (S'.src a rfl).2.2 (w'.to (Ext.refl _ _) S'.sub)
end
end DD

/-! What a judgement says, as one reading for all places where it stands; comprehensions by parts; defs that let no error out. -/
namespace DD
open PySem L2
open PyProof.Rows (envOfC)
def tD (K : Fg) (EX : XK) (dt : DE) : TE := fun σ H Q => ∃ (s : Option Addr) (H0 : Hp) (W0 W : List Addr) (ρ : Env') (R : PyData → Env' → Prop) (Er : Er'), SOk K H0 W0 s W σ ρ H ∧ ErOk K H0 W0 s EX Er ∧ dt ρ R Er ∧ Bk K H0 W0 s W σ H R Q
def tDT (K : Fg) (EX : XK) (dt : DT) : TT := fun σ H Q => ∃ (s : Option Addr) (H0 : Hp) (W0 W : List Addr) (ρ : Env') (R : Bool → Env' → Prop) (Er : Er'), SOk K H0 W0 s W σ ρ H ∧ ErOk K H0 W0 s EX Er ∧ dt ρ R Er ∧ BkT K H0 W0 s W σ H R Q
def tDG (K : Fg) (is : List Nat) (g : DG) : TG := fun v σ H Q => ∃ (s : Option Addr) (H0 : Hp) (W0 W : List Addr) (ρ : Env') (d : PyData) (R : Env' → Prop), SOk K H0 W0 s W σ ρ H ∧ Dw K H W v d ∧ g d ρ R ∧
  (∀ (σ' : St) (ρ' : Env'), R ρ' → SOk K H0 W0 s W σ' ρ' H → (∀ vs : List Nat, (∀ i ∈ is, i ∈ vs) → wipe σ' vs = wipe σ vs) → Q σ' H)
theorem DEx.pe {X : Cx} {EX : XK} {e : Expr} {dt : DE} (h : DEx X EX e dt) : PE X e (tD X.K EX dt) := by
  obtain ⟨t, p, q⟩ := h.ex
  constructor
  rintro pins s σ H Q I ⟨s', H0, W0, W, ρ, R, Er, S, eo, hd, k⟩
  exact p.run pins s σ H Q I (q s' H0 W0 W σ ρ H R Er Q S eo hd k)
theorem DTsx.pts {X : Cx} {EX : XK} {ifs : List Expr} {dt : DT} (h : DTsx X EX ifs dt) : PTs X ifs (tDT X.K EX dt) := by
  obtain ⟨t, p, q⟩ := h.ex
  constructor
  rintro pins s σ H Q I ⟨s', H0, W0, W, ρ, R, Er, S, eo, hd, k⟩
  exact p.run pins s σ H Q I (q s' H0 W0 W σ ρ H R Er Q S eo hd k)
theorem DGx.pg {X : Cx} {tg : Expr} {is : List Nat} {g : DG} (h : DGx X tg is g) : PG X tg (tDG X.K is g) := by
  obtain ⟨t, p, q⟩ := h.ex
  constructor
  rintro pins s σ H v u Q I r ⟨s', H0, W0, W, ρ, d, R, S, w, hd, k⟩
  exact p.run pins s σ H v u Q I r (q s' H0 W0 W σ ρ H v d R Q S w hd k)
section
variable {X : Cx} {EX : XK} {tg iter elt : Expr} {pos : Pos}
theorem de_comp {ifs : List Expr} {scope : Scope} (own : List (Str × Nat)) {di : DI} {is : List Nat} {g : DG} {tt : DT} {te : DE} (hc : X.calm = true) (hN : X.N.Nodup) (hi : DIx X EX tg iter di) (ok : BlkOk X.N X.env.scope scope own)
    (hg : ∀ (s : Shared) (H : Hp) (C : Addr) (cl : List (Str × Addr)) (fp : List Addr), DGx (BlkX X scope s H C cl fp) tg is g) (ht : ∀ (s : Shared) (H : Hp) (C : Addr) (cl : List (Str × Addr)) (fp : List Addr), DTsx (BlkX X scope s H C cl fp) E0 ifs tt)
    (he : ∀ (s : Shared) (H : Hp) (C : Addr) (cl : List (Str × Addr)) (fp : List Addr), DEx (BlkX X scope s H C cl fp) E0 elt te)
    (his : ∀ i ∈ is, i ∈ own.map (·.2) := by decide) (hs : ∀ x, foldedSetIterable iter X.env x = pure x := by intro _; rfl) : DEx X EX (.ListComp elt [⟨tg, iter, ifs, 0⟩] scope pos) (dLc di g tt te (own.map (·.2))) :=
  de_lc (g := g) (tt := tt) (te := te) (g1 := tDG X.K is g) (tt1 := tDT X.K E0 tt) (te1 := tD X.K E0 te) hc hN hi ok (fun s H C cl fp => (hg s H C cl fp).pg) (fun s H C cl fp => (ht s H C cl fp).pts) (fun s H C cl fp => (he s H C cl fp).pe)
    (fun s H0 W0 W σ ρ H v d R Q S w hd k => ⟨s, H0, W0, W, ρ, d, R, S, w, hd, k⟩) (fun s H0 W0 W σ ρ H R Er Q S eo hd k => ⟨s, H0, W0, W, ρ, R, Er, S, eo, hd, k⟩) (fun s H0 W0 W σ ρ H R Er Q S eo hd k => ⟨s, H0, W0, W, ρ, R, Er, S, eo, hd, k⟩) his hs
/-- name = [..] on one line, data -/
theorem ds_setLc {i : Nat} {y : Str} {py spos : Pos} {ifs : List Expr} {scope : Scope} (own : List (Str × Nat)) {di : DI} {is : List Nat} {g : DG} {tt : DT} {te : DE} (hc : X.calm = true) (hN : X.N.Nodup) (hy : X.N[i]? = some y) (hyl : X.env.scope.names.lookup y = some .local)
    (hsw : swapsWith (.ListComp elt [⟨tg, iter, ifs, 0⟩] scope pos) (some (.Name y py)) spos.line X.env = pure true) (hi : DIx X EX tg iter di) (ok : BlkOk X.N X.env.scope scope own)
    (hg : ∀ (s : Shared) (H : Hp) (C : Addr) (cl : List (Str × Addr)) (fp : List Addr), DGx (BlkX X scope s H C cl fp) tg is g) (ht : ∀ (s : Shared) (H : Hp) (C : Addr) (cl : List (Str × Addr)) (fp : List Addr), DTsx (BlkX X scope s H C cl fp) E0 ifs tt)
    (he : ∀ (s : Shared) (H : Hp) (C : Addr) (cl : List (Str × Addr)) (fp : List Addr), DEx (BlkX X scope s H C cl fp) E0 elt te)
    (his : ∀ i ∈ is, i ∈ own.map (·.2) := by decide) (hs : ∀ x, foldedSetIterable iter X.env x = pure x := by intro _; rfl) :
    DSx X EX (.Assign [.Name y py] (.ListComp elt [⟨tg, iter, ifs, 0⟩] scope pos) spos) (sSet i (dLc di g tt te (own.map (·.2)))) := by
  obtain ⟨wi, pi, qi⟩ := hi.ex
  refine ⟨_, ps_setLc (g := tDG X.K is g) (tt := tDT X.K E0 tt) (te := tD X.K E0 te) hc hN hy hyl hsw pi ok (fun s H C cl fp => (hg s H C cl fp).pg) (fun s H C cl fp => (ht s H C cl fp).pts) (fun s H C cl fp => (he s H C cl fp).pe) hs, fun s H0 W0 W σ ρ H D Er E S eo hd k => ?_⟩
  refine lc_sound (X := X) (EX := EX) (g := g) (tt := tt) (te := te) qi (fun s H0 W0 W σ ρ H v d R Q S w hd k => ⟨s, H0, W0, W, ρ, d, R, S, w, hd, k⟩) (fun s H0 W0 W σ ρ H R Er Q S eo hd k => ⟨s, H0, W0, W, ρ, R, Er, S, eo, hd, k⟩)
    (fun s H0 W0 W σ ρ H R Er Q S eo hd k => ⟨s, H0, W0, W, ρ, R, Er, S, eo, hd, k⟩) his s H0 W0 W σ ρ H _ Er _ S eo hd fun p xs ds W' ρ' H' hR sb ex S' st pw hp0 hp q no => ?_
  obtain ⟨W2, s2, S2, w2⟩ := lc_done sb S' pw hp0 hp q no
  exact k.nx W2 _ _ H' hR (Step.of s2 ex) (S2.set w2)
/-- a, b = list(e), [] : two lists of the def's own -/
def sParLN (i j : Nat) (a : DE) : DS := fun D ρ Er => a ρ (fun d ρ1 => match fListOf [d] with | some (.list ds) => D.nx ((ρ1.set i (some (.own ds))).set j (some (.own []))) | _ => False) Er
theorem ds_parLN {i j : Nat} {st : Stmt} {e : Expr} {da : DE} {p p2 p3 : Pos} (mk : ∀ ta, PA X [.Call (.Name "list" p) [e] [] p2, .List [] p3] ta → PS X st (tPar i j ta)) (hg : Gl X "list") (hm : X.mg "list" = none) (ha : DEx X EX e da)
    (h1 : starEach [e] X.env = (false, eval e X.env) :: starEach [] X.env := by rfl)
    (h2 : starEach [.Call (.Name "list" p) [e] [] p2, .List [] p3] X.env = (false, eval (.Call (.Name "list" p) [e] [] p2) X.env) :: starEach [.List [] p3] X.env := by rfl)
    (h3 : starEach [.List [] p3] X.env = (false, eval (.List [] p3) X.env) :: starEach [] X.env := by rfl) (hpl : (backTo p2 (starEach [] X.env)).any (·.1) = false := by rfl) : DSx X EX st (sParLN i j da) := by
  obtain ⟨t, pp, q⟩ := ha.ex
  refine ⟨_, mk _ (pa_cons (pe_callTy call_list_of hg hm PyProof.Rows.boot_list (pa_cons pp pa_nil h1) (he := h1) (hpl := hpl)) (pa_cons (pe_lst pa_nil) pa_nil h3) h2), fun s H0 W0 W σ ρ H D Er E S eo hd k => ?_⟩
  refine q s H0 W0 W σ ρ H _ Er _ S eo hd fun v d W1 ρ1 H1 hd1 s1 e1 S1 w1 => ?_
  have go : ∀ (a : Addr) (xs : List V) (ds : List PyData), DwA X.K H1 W1 xs ds → D.nx ((ρ1.set i (some (.own ds))).set j (some (.own []))) → ∀ l, H1 l = none → (([] : List V).length ≤ sizeLine ∧ ∀ p, (upd H1 l (.lst xs)) p = none → ∃ v w, [V.ref l, V.ref p] = [v, w] ∧ E.nx ((σ.set i (some v)).set j (some w)) (upd (upd H1 l (.lst xs)) p (.lst []))) := by
    intro a xs ds qa hnx l hl
    refine ⟨Nat.zero_le _, fun p hp => ⟨_, _, rfl, ?_⟩⟩
    obtain ⟨S2, no2⟩ := S1.newOwn (xs := xs) hl
    have S3 := S2.setOwn (i := i) List.mem_cons_self (S1.fresh0 hl) upd_same (DwA.new hl qa) no2
    obtain ⟨S4, no4⟩ := S3.newOwn (xs := []) hp
    have S5 := S4.setOwn (i := j) (ds := []) List.mem_cons_self (S3.fresh0 hp) upd_same .nil no4
    exact k.nx _ _ _ _ hnx ((Step.of s1 e1).trans ((step_new hl).trans (step_new hp))) S5
  cases d with
  | list ds =>
    obtain ⟨a, rfl⟩ := w1.lstV
    obtain ⟨xs, hx, qa⟩ := w1.sqL
    exact ⟨a, xs, rfl, .inl hx, fun l hl => go a xs ds qa hd1 l hl⟩
  | tuple ds =>
    obtain ⟨a, rfl⟩ := w1.tupV
    obtain ⟨xs, hx, qa⟩ := w1.sqT
    exact ⟨a, xs, rfl, .inr hx, fun l hl => go a xs ds qa hd1 l hl⟩
  | _ => exact hd1.elim
end
theorem passE {X : Cx} {E : XK} : Passes CX0 X E := fun _ _ _ _ _ _ _ h => h.elim
theorem DBx.nox {X : Cx} {EX : XK} {st : List Stmt} {dt : DS} (h : DBx X.nox EX st dt) : DBx X EX st dt := by
  obtain ⟨t, p, q⟩ := h.ex
  exact ⟨t, p.nox, q⟩
section
variable {P : Program} {w : World} {K : Fg} {mg : Str → Option Value} {base : Heap}
abbrev CXn (P : Program) (w : World) (K : Fg) (mg : Str → Option Value) (base : Heap) (N : List Str) (qual : Str) (st : Stmt) (f : Addr) (cdv : Value) (A : Around) (outer : List Env) (s : Shared) (H : Hp) (E : XK) : Cx := (cxOf CX0 P w K mg base N qual (defScope st) f cdv A outer s H E).nox
theorem fun_d0 {x qual : Str} {st : Stmt} {f : Addr} {fd : FuncData} {N ps : List Str} {k n : Nat} {fn : PF} (F : Fun K x qual st f fd) (S : FnScope N ps (defScope st)) (hn : ps.length = n)
    (dt : DS) (h : ∀ (cdv : Value) (A : Around) (outer : List Env) (s : Shared) (H : Hp) (E : XK), Room k (A.deeper (envOfC qual (defScope st) s.heap.objs.size f cdv)) → A.guards = some [] → DBx (CXn P w K mg base N qual st f cdv A outer s H E) E (defBody st) dt)
    (hd : ∀ ds R Er, ds.length = n → fn ds R Er → dt { nx := fun _ => R .none, rt := R } (startD N.length ds) Er) :
    FnG P w K mg base CX0 (k + 1) f fd ps (spD K n fn) :=
  fun_d F S hn fun cdv A outer s H E hr hg => ⟨dt, (h cdv A outer s H E hr hg).nox, hd⟩
theorem fun_s0 {x qual : Str} {st : Stmt} {f : Addr} {fd : FuncData} {N ps : List Str} {k n : Nat} {fn : PF} (F : Fun K x qual st f fd) (S : FnScope N ps (defScope st)) (hn : ps.length = n) (hN : 0 < N.length)
    (dt : DS) (h : ∀ (cdv : Value) (A : Around) (outer : List Env) (s : Shared) (H : Hp) (E : XK), Room k (A.deeper (envOfC qual (defScope st) s.heap.objs.size f cdv)) → A.guards = some [] → DBx (CXn P w K mg base N qual st f cdv A outer s H E) E (defBody st) dt)
    (hd : ∀ ds R Er, ds.length + 1 = n → fn ds R Er → dt { nx := fun _ => R .none, rt := R } (startS N.length ds) Er) :
    FnG P w K mg base CX0 (k + 1) f fd ps (spS K n fn) :=
  fun_s F S hn hN fun cdv A outer s H E hr hg => ⟨dt, (h cdv A outer s H E hr hg).nox, hd⟩
end
end DD

/-! Short words for what is generated: calls of what is built in, of own defs. -/
namespace DD
open PySem L2
open PyProof.Rows (envOfC)
section
variable {X : Cx} {EX : XK} {a b e : Expr} {es : List Expr} {da : DA} {dx : DE} {p pos : Pos}
theorem de_len (hm : X.mg "len" = none) (ha : DAx X EX (e :: es) da) (hg : Gl X "len" := by rfl) (he : starEach (e :: es) X.env = (false, eval e X.env) :: starEach es X.env := by rfl) (hpl : (backTo pos (starEach es X.env)).any (·.1) = false := by rfl) :
    DEx X EX (.Call (.Name "len" p) (e :: es) [] pos) (dCall fLen da) := call_ok ra_len ha fun t q => pe_callB call_len_seq hg hm boot_len q (he := he) (hpl := hpl)
theorem de_lenO' {i : Nat} {y : Str} {py : Pos} (hm : X.mg "len" = none) (hv : PE X (.Name y py) (tVar i)) (hg : Gl X "len" := by rfl) (he : starEach [.Name y py] X.env = (false, eval (.Name y py) X.env) :: starEach [] X.env := by rfl) (hpl : (backTo pos (starEach [] X.env)).any (·.1) = false := by rfl) :
    DEx X EX (.Call (.Name "len" p) [.Name y py] [] pos) (dLenO i) := de_lenO hv fun t q => pe_callB call_len_seq hg hm boot_len (pa_cons q pa_nil he) (he := he) (hpl := hpl)
theorem de_max2 (hc : X.calm = true) (hm : X.mg "max" = none) (ha : DAx X EX (e :: es) da) (hg : Gl X "max" := by rfl) (he : starEach (e :: es) X.env = (false, eval e X.env) :: starEach es X.env := by rfl) (hpl : (backTo pos (starEach es X.env)).any (·.1) = false := by rfl) :
    DEx X EX (.Call (.Name "max" p) (e :: es) [] pos) (dCall fMax2 da) := call_ok ra_max2 ha fun t q => pe_callB (call_max2 hc) hg hm PyProof.Rows.boot_max q (he := he) (hpl := hpl)
theorem boot_min' : bootBuiltins "min" = some (.builtin "min") := by decide +kernel
theorem boot_all' : bootBuiltins "all" = some (.builtin "all") := by decide +kernel
theorem boot_any' : bootBuiltins "any" = some (.builtin "any") := by decide +kernel
theorem de_min2 (hc : X.calm = true) (hm : X.mg "min" = none) (ha : DAx X EX (e :: es) da) (hg : Gl X "min" := by rfl) (he : starEach (e :: es) X.env = (false, eval e X.env) :: starEach es X.env := by rfl) (hpl : (backTo pos (starEach es X.env)).any (·.1) = false := by rfl) :
    DEx X EX (.Call (.Name "min" p) (e :: es) [] pos) (dCall fMin2 da) := call_ok ra_min2 ha fun t q => pe_callB (call_min2 hc) hg hm boot_min' q (he := he) (hpl := hpl)
theorem de_all (hc : X.calm = true) (hm : X.mg "all" = none) (ha : DAx X EX (e :: es) da) (hg : Gl X "all" := by rfl) (he : starEach (e :: es) X.env = (false, eval e X.env) :: starEach es X.env := by rfl) (hpl : (backTo pos (starEach es X.env)).any (·.1) = false := by rfl) :
    DEx X EX (.Call (.Name "all" p) (e :: es) [] pos) (dCall fAll da) := call_ok ra_all ha fun t q => pe_callB (cr_all hc) hg hm boot_all' q (he := he) (hpl := hpl)
theorem de_any (hc : X.calm = true) (hm : X.mg "any" = none) (ha : DAx X EX (e :: es) da) (hg : Gl X "any" := by rfl) (he : starEach (e :: es) X.env = (false, eval e X.env) :: starEach es X.env := by rfl) (hpl : (backTo pos (starEach es X.env)).any (·.1) = false := by rfl) :
    DEx X EX (.Call (.Name "any" p) (e :: es) [] pos) (dCall fAny da) := call_ok ra_any ha fun t q => pe_callB (cr_any hc) hg hm boot_any' q (he := he) (hpl := hpl)
theorem de_intc (hm : X.mg "int" = none) (ha : DAx X EX (e :: es) da) (hg : Gl X "int" := by rfl) (he : starEach (e :: es) X.env = (false, eval e X.env) :: starEach es X.env := by rfl) (hpl : (backTo pos (starEach es X.env)).any (·.1) = false := by rfl) :
    DEx X EX (.Call (.Name "int" p) (e :: es) [] pos) (dCall fInt da) := call_ok ra_int ha fun t q => pe_callTy call_int1 hg hm PyProof.Rows.boot_int q (he := he) (hpl := hpl)
theorem de_list (hm : X.mg "list" = none) (ha : DAx X EX (e :: es) da) (hg : Gl X "list" := by rfl) (he : starEach (e :: es) X.env = (false, eval e X.env) :: starEach es X.env := by rfl) (hpl : (backTo pos (starEach es X.env)).any (·.1) = false := by rfl) :
    DEx X EX (.Call (.Name "list" p) (e :: es) [] pos) (dCall fListOf da) := call_ok ra_listOf ha fun t q => pe_callTy call_list_of hg hm PyProof.Rows.boot_list q (he := he) (hpl := hpl)
theorem de_tuple (hm : X.mg "tuple" = none) (ha : DAx X EX (e :: es) da) (hg : Gl X "tuple" := by rfl) (he : starEach (e :: es) X.env = (false, eval e X.env) :: starEach es X.env := by rfl) (hpl : (backTo pos (starEach es X.env)).any (·.1) = false := by rfl) :
    DEx X EX (.Call (.Name "tuple" p) (e :: es) [] pos) (dCall fTupOf da) := call_ok ra_tupOf ha fun t q => pe_callTy call_tuple_of hg hm PyProof.Rows.boot_tuple q (he := he) (hpl := hpl)
theorem de_repr (hgd : X.A.guards = some []) (hu : X.A.units + 64 < cLine) (hm : X.mg "repr" = none) (ha : DAx X EX (e :: es) da) (hg : Gl X "repr" := by rfl) (he : starEach (e :: es) X.env = (false, eval e X.env) :: starEach es X.env := by rfl) (hpl : (backTo pos (starEach es X.env)).any (·.1) = false := by rfl) :
    DEx X EX (.Call (.Name "repr" p) (e :: es) [] pos) (dCall fRepr da) := call_ok ra_repr ha fun t q => pe_callB (call_reprD hgd hu) hg hm PyProof.Rows.boot_repr q (he := he) (hpl := hpl)
def isi_int : "int" = "int" ∨ "int" = "bool" ∨ "int" = "tuple" ∨ "int" = "list" ∨ "int" = "str" ∨ "int" = "dict" := .inl rfl
def isi_bool : "bool" = "int" ∨ "bool" = "bool" ∨ "bool" = "tuple" ∨ "bool" = "list" ∨ "bool" = "str" ∨ "bool" = "dict" := .inr (.inl rfl)
def isi_tuple : "tuple" = "int" ∨ "tuple" = "bool" ∨ "tuple" = "tuple" ∨ "tuple" = "list" ∨ "tuple" = "str" ∨ "tuple" = "dict" := .inr (.inr (.inl rfl))
def isi_list : "list" = "int" ∨ "list" = "bool" ∨ "list" = "tuple" ∨ "list" = "list" ∨ "list" = "str" ∨ "list" = "dict" := .inr (.inr (.inr (.inl rfl)))
def isi_str : "str" = "int" ∨ "str" = "bool" ∨ "str" = "tuple" ∨ "str" = "list" ∨ "str" = "str" ∨ "str" = "dict" := .inr (.inr (.inr (.inr (.inl rfl))))
def isi_dict : "dict" = "int" ∨ "dict" = "bool" ∨ "dict" = "tuple" ∨ "dict" = "list" ∨ "dict" = "str" ∨ "dict" = "dict" := .inr (.inr (.inr (.inr (.inr rfl))))
theorem boot_str' : bootBuiltins "str" = some (.type "str") := by decide +kernel
theorem boot_dict' : bootBuiltins "dict" = some (.type "dict") := by decide +kernel
/-- -e -/
def dNeg (a : DE) : DE := fun ρ R Er => a ρ (fun d ρ1 => match d with | .int i => R (.int (-i)) ρ1 | _ => False) Er
theorem de_neg (ha : DEx X EX a dx) : DEx X EX (.UnaryOp .USub a pos) (dNeg dx) := by
  obtain ⟨t, p, q⟩ := ha.ex
  refine ⟨_, pe_un un_neg p, fun s H0 W0 W σ ρ H R Er Q S eo hd k => ?_⟩
  refine q s H0 W0 W σ ρ H _ Er _ S eo hd fun v d W1 ρ1 H1 hd1 s1 e1 S1 w1 => ?_
  split at hd1
  · cases w1
    exact ⟨_, rfl, k _ _ W1 ρ1 H1 hd1 s1 e1 S1 (.int _)⟩
  · exact hd1.elim
/-- a def that may be called: where it stands, what it promises -/
structure Cal (P : Program) (w : World) (K : Fg) (mg : Str → Option Value) (base : Heap) (k : Nat) (x : Str) (sp : Sp) : Prop where
  ex : ∃ (a : Addr) (fd : FuncData) (ps : List Str), FnG P w K mg base CX0 k a fd ps sp ∧ mg x = some (.ref a) ∧ PySem.W.keepIn K (.ref a) = true ∧ Binds K fd ps []
/-- a def of the text, behind the top -/
structure DefAt (K : Fg) (mg : Str → Option Value) (x : Str) (st : Stmt) (ps : List Str) : Prop where
  ex : ∃ (a : Addr) (fd : FuncData), Fun K x x st a fd ∧ mg x = some (.ref a) ∧ Binds K fd ps []
theorem DefAt.cal {P : Program} {w : World} {K : Fg} {mg : Str → Option Value} {base : Heap} {k : Nat} {x : Str} {st : Stmt} {ps : List Str} {sp : Sp} (D : DefAt K mg x st ps) (h : ∀ a fd, Fun K x x st a fd → FnG P w K mg base CX0 k a fd ps sp) : Cal P w K mg base k x sp := by
  obtain ⟨a, fd, F, g, b⟩ := D.ex
  exact ⟨a, fd, ps, h a fd F, g, F.kp, b⟩
variable {k n j : Nat} {fn : PF} {x : Str}
theorem de_call (c : Cal X.prog X.w X.K X.mg X.base k x (spD X.K n fn)) (hr : Room j X.A) (hk : k ≤ j) (hgd : X.A.guards = some []) (ha : DAx X EX (e :: es) da) (hn : (e :: es).length = n := by rfl) (hg : Gl X x := by rfl) (hdb : (x == ("__debug__" : Str)) = false := by decide)
    (he : starEach (e :: es) X.env = (false, eval e X.env) :: starEach es X.env := by rfl) (hpl : (backTo pos (starEach es X.env)).any (·.1) = false := by rfl) :
    DEx X EX (.Call (.Name x p) (e :: es) [] pos) (dFn (fun ds R Er => ds.length = n ∧ fn ds R Er) da) := by
  obtain ⟨a, fd, ps, F, g, kp, b⟩ := c.ex
  exact de_fn F (hr.mono hk) hgd hg g kp b passE hn ha hdb he hpl
theorem de_callS {i : Nat} {y : Str} {py : Pos} (c : Cal X.prog X.w X.K X.mg X.base k x (spS X.K n fn)) (hr : Room j X.A) (hk : k ≤ j) (hgd : X.A.guards = some []) (hv : PE X (.Name y py) (tVar i)) (ha : DAx X EX es da) (hg : Gl X x := by rfl) (hdb : (x == ("__debug__" : Str)) = false := by decide)
    (he : starEach (.Name y py :: es) X.env = (false, eval (.Name y py) X.env) :: starEach es X.env := by rfl) (hpl : (backTo pos (starEach es X.env)).any (·.1) = false := by rfl) :
    DEx X EX (.Call (.Name x p) (.Name y py :: es) [] pos) (dFnS i (fun ds R Er => ds.length + 1 = n ∧ fn ds R Er) da) := by
  obtain ⟨a, fd, ps, F, g, kp, b⟩ := c.ex
  exact de_fnS F (hr.mono hk) hgd hg g kp b passE hv ha hdb he hpl
end
end DD

/-! The source's numbers, the script, a new source. -/
namespace DD
open PySem L2
open PyProof.Rows (envOfC)
section
variable {X : Cx} {EX : XK} {a b e : Expr} {es : List Expr} {dx : DE} {p pos : Pos}
theorem de_gintE {x : Str} {i : Int} (hg : Gl X x) (h : ∃ t, X.mg x = some (.int i t)) (hd : (x == ("__debug__" : Str)) = false := by decide) : DEx X EX (.Name x pos) (dC (.int i)) := by
  obtain ⟨t, h⟩ := h
  exact de_gint hg h hd
/-- source[0], source[1] -/
def dSrc0 (i : Nat) : DE := fun ρ R _ => ρ[i]? = some (some .src) ∧ ∀ n : Int, 0 ≤ n → R (.int n) ρ
def dSrc1 (i : Nat) : DE := fun ρ R _ => ρ[i]? = some (some .src) ∧ ∀ n : Int, 0 ≤ n → n < 2147483648 → R (.int n) ρ
theorem de_src0 {i : Nat} {y : Str} {py pk : Pos} {j} (hv : PE X (.Name y py) (tVar i)) (hs : PlainIx (.Constant (.int 0) j pk) := by exact fun _ _ => rfl) : DEx X EX (.Subscript (.Name y py) (.Constant (.int 0) j pk) pos) (dSrc0 i) := by
  refine ⟨_, pe_ix ix_list hv pe_int hs, fun s H0 W0 W σ ρ H R Er Q S eo hd k => ?_⟩
  obtain ⟨hi, hd⟩ := hd
  obtain ⟨v, h1, a, rfl, hsa⟩ := S.slot i _ hi
  obtain ⟨_, _, x, z, q, h2, h3, h4⟩ := S.src a hsa
  exact ⟨_, h1, a, _, 0, .int x, rfl, rfl, SqL.of q, rfl, k _ _ W ρ H (hd x h2) (fun _ z => z) (Ext.refl _ _) S (.int _)⟩
theorem de_src1 {i : Nat} {y : Str} {py pk : Pos} {j} (hv : PE X (.Name y py) (tVar i)) (hs : PlainIx (.Constant (.int 1) j pk) := by exact fun _ _ => rfl) : DEx X EX (.Subscript (.Name y py) (.Constant (.int 1) j pk) pos) (dSrc1 i) := by
  refine ⟨_, pe_ix ix_list hv pe_int hs, fun s H0 W0 W σ ρ H R Er Q S eo hd k => ?_⟩
  obtain ⟨hi, hd⟩ := hd
  obtain ⟨v, h1, a, rfl, hsa⟩ := S.slot i _ hi
  obtain ⟨_, _, x, z, q, h2, h3, h4⟩ := S.src a hsa
  exact ⟨_, h1, a, _, 1, .int z, rfl, rfl, SqL.of q, rfl, k _ _ W ρ H (hd z h3 h4) (fun _ z => z) (Ext.refl _ _) S (.int _)⟩
/-- the source's numbers change -/
theorem SOk.setSrc {K : Fg} {H0 H : Hp} {W0 W : List Addr} {s : Option Addr} {σ : St} {ρ : Env'} (S : SOk K H0 W0 s W σ ρ H) {a : Addr} (hs : s = some a) {x y : Int} (hx : 0 ≤ x) (hy : 0 ≤ y) (hy2 : y < 2147483648) :
    SOk K H0 W0 s W σ ρ (L2.upd H a (.lst [.int x, .int y])) ∧ Ext W H (L2.upd H a (.lst [.int x, .int y])) := by
  subst hs
  have hW := S.sub a (S.src a rfl).1
  refine ⟨S.grow (fun b o n h => by rw [upd_ne (fun e => n (by rw [e]))]; exact h) fun b hb => ?_, fun b o n h => by rw [upd_ne (fun e => n (by rw [e]; exact hW))]; exact h⟩
  cases hb
  exact ⟨x, y, upd_same, hx, hy, hy2⟩
def sSrc0 (i : Nat) (a : DE) : DS := fun D ρ Er => a ρ (fun d ρ1 => ρ1[i]? = some (some .src) ∧ match d with | .int n => 0 ≤ n ∧ D.nx ρ1 | _ => False) Er
def sSrc1 (i : Nat) (a : DE) : DS := fun D ρ Er => a ρ (fun d ρ1 => ρ1[i]? = some (some .src) ∧ match d with | .int n => 0 ≤ n ∧ n < 2147483648 ∧ D.nx ρ1 | _ => False) Er
theorem ds_src0 {i : Nat} {y : Str} {py pk ps : Pos} {j} (hv : PE X (.Name y py) (tVar i)) (ha : DEx X EX e dx)
    (mk : ∀ te, PE X e te → PS X (.Assign [.Subscript (.Name y py) (.Constant (.int 0) j pk) ps] e pos) (tAsg te (gSub (tVar i) (tC (.int 0)) rSetL))) : DSx X EX (.Assign [.Subscript (.Name y py) (.Constant (.int 0) j pk) ps] e pos) (sSrc0 i dx) := by
  obtain ⟨t, p, q⟩ := ha.ex
  refine ⟨_, mk t p, fun s H0 W0 W σ ρ H D Er E S eo hd k => ?_⟩
  refine q s H0 W0 W σ ρ H _ Er _ S eo hd fun v d W1 ρ1 H1 hd1 s1 e1 S1 w1 => ?_
  obtain ⟨hi, hd1⟩ := hd1
  split at hd1
  · cases w1
    obtain ⟨v, h1, a, rfl, hsa⟩ := S1.slot i _ hi
    obtain ⟨_, _, x, z, q, h2, h3, h4⟩ := S1.src a hsa
    obtain ⟨S2, ex⟩ := S1.setSrc hsa hd1.1 h3 h4
    exact ⟨_, h1, a, _, 0, 0, rfl, rfl, q, rfl, k.nx W1 σ ρ1 _ hd1.2 (Step.of s1 (e1.trans (ex.sub s1))) S2⟩
  · exact hd1.elim
theorem ds_src1 {i : Nat} {y : Str} {py pk ps : Pos} {j} (hv : PE X (.Name y py) (tVar i)) (ha : DEx X EX e dx)
    (mk : ∀ te, PE X e te → PS X (.Assign [.Subscript (.Name y py) (.Constant (.int 1) j pk) ps] e pos) (tAsg te (gSub (tVar i) (tC (.int 1)) rSetL))) : DSx X EX (.Assign [.Subscript (.Name y py) (.Constant (.int 1) j pk) ps] e pos) (sSrc1 i dx) := by
  obtain ⟨t, p, q⟩ := ha.ex
  refine ⟨_, mk t p, fun s H0 W0 W σ ρ H D Er E S eo hd k => ?_⟩
  refine q s H0 W0 W σ ρ H _ Er _ S eo hd fun v d W1 ρ1 H1 hd1 s1 e1 S1 w1 => ?_
  obtain ⟨hi, hd1⟩ := hd1
  split at hd1
  · cases w1
    obtain ⟨v, h1, a, rfl, hsa⟩ := S1.slot i _ hi
    obtain ⟨_, _, x, z, q, h2, h3, h4⟩ := S1.src a hsa
    obtain ⟨S2, ex⟩ := S1.setSrc hsa h2 hd1.1 hd1.2.1
    exact ⟨_, h1, a, _, 1, 1, rfl, rfl, q, rfl, k.nx W1 σ ρ1 _ hd1.2.2 (Step.of s1 (e1.trans (ex.sub s1))) S2⟩
  · exact hd1.elim
/-! ### the script -/
theorem scr_at {ns : List Int} {i : Int} {n : Int} (h : atI ns i = some n) : atI (ns.map V.int) i = some (V.int n) := by
  unfold atI at h ⊢
  rw [List.length_map]
  cases e : ixN ns.length i with
  | none => rw [e] at h; cases h
  | some j =>
    rw [e] at h
    have h' : ns[j]? = some n := h
    show (ns.map V.int)[j]? = _
    rw [List.getElem?_map, h']; rfl
/-- script[e] -/
def dScrIx (i : Nat) (a : DE) : DE := fun ρ R Er => (∃ ns, ρ[i]? = some (some (.scr ns))) ∧ a ρ (fun d ρ1 => match d, ρ1[i]? with
  | .int j, some (some (.scr ns)) => ∃ n, atI ns j = some n ∧ R (.int n) ρ1
  | _, _ => False) Er
theorem de_scrIx {i : Nat} {y : Str} {py : Pos} (hv : PE X (.Name y py) (tVar i)) (ha : DEx X EX a dx) (hs : PlainIx a := by exact fun _ _ => rfl) : DEx X EX (.Subscript (.Name y py) a pos) (dScrIx i dx) := by
  obtain ⟨t, pa, q⟩ := ha.ex
  refine ⟨_, pe_ix ix_list hv pa hs, fun s H0 W0 W σ ρ H R Er Q S eo hd k => ?_⟩
  obtain ⟨⟨ns0, h0⟩, hd⟩ := hd
  obtain ⟨v0, g0, a0, rfl, _⟩ := S.slot i _ h0
  refine ⟨_, g0, q s H0 W0 W σ ρ H _ Er _ S eo hd fun v d W1 ρ1 H1 hd1 s1 e1 S1 w1 => ?_⟩
  split at hd1
  · rename_i j ns hi
    cases w1
    obtain ⟨v, g1, a1, rfl, q1⟩ := S1.slot i _ hi
    rw [g0] at g1
    cases g1
    obtain ⟨n, hn, hR⟩ := hd1
    exact ⟨a0, _, j, _, rfl, rfl, q1.sq, scr_at hn, k _ _ W1 ρ1 H1 hR s1 e1 S1 (.int _)⟩
  · exact hd1.elim
/-- for .. in script -/
def dScr (i : Nat) : DI := fun ρ R _ => match ρ[i]? with | some (some (.scr ns)) => R (ns.map .int) ρ | _ => False
theorem di_scr {tg : Expr} {i : Nat} {y : Str} {py : Pos} (hv : PE X (.Name y py) (tVar i)) : DIx X EX tg (.Name y py) (dScr i) := by
  refine ⟨_, pi_list hv, fun s H0 W0 W σ ρ H R Er Q S eo hd k => ?_⟩
  unfold dScr at hd
  split at hd
  · rename_i ns hi
    obtain ⟨v, g1, a1, rfl, q1⟩ := S.slot i _ hi
    refine ⟨_, g1, a1, rfl, ⟨_, q1.sq⟩, k _ _ W ρ H hd (fun _ z => z) (Ext.refl _ _) S ⟨fun j W2 H2 d st hj => ?_, fun j W2 H2 st hj => ?_⟩⟩
    · have hq : SqL X.K H2 a1 (ns.map V.int) := (q1.go (H' := H2) (W' := W) fun o n h => ⟨st.1 a1 o n h, n⟩).sq
      rw [List.getElem?_map] at hj
      cases e : ns[j]? with
      | none => rw [e] at hj; cases hj
      | some n =>
        rw [e] at hj
        cases hj
        have hv' : (ns.map V.int)[j]? = some (V.int n) := by rw [List.getElem?_map, e]; rfl
        refine ⟨⟨_, _, hq, hv'⟩, fun x H3 y => ?_⟩
        obtain ⟨e1, y⟩ := y
        subst e1
        have := y _ hq
        rw [hv'] at this
        cases this
        exact ⟨Same.refl _, .int _⟩
    · exact ⟨_, (q1.go (H' := H2) (W' := W) fun o n h => ⟨st.1 a1 o n h, n⟩).sq, by simpa using hj⟩
  · exact hd.elim
/-! ### a new source -/
/-- what makes a source: of the script and a number -/
def spN (K : Fg) (ok : List Int → Int → Prop) : Sp := fun vs H Q _ => ∃ (c : Addr) (ns : List Int) (W : List Addr) (j : Int), vs = [.ref c, .int j] ∧ Wok H W ∧ ScrAt K H W c (ns.map V.int) ∧ ok ns j ∧
  ∀ (p : Addr) (H' : Hp), Same H H' → H p = none → SrcAt H' p → Q (.ref p) H'
def noOwn (ρ : Env') : Prop := ∀ (i : Nat) (d : D), ρ[i]? = some (some d) → (∃ x, d = .dat x) ∨ ∃ ns, d = .scr ns
/-- no slot holds the source any more -/
def unSrc (ρ : Env') : Env' := ρ.map fun d => match d with
  | some .src => none
  | d => d
theorem unSrc_get {ρ : Env'} {i : Nat} {d : D} (h : (unSrc ρ)[i]? = some (some d)) : ρ[i]? = some (some d) ∧ d ≠ .src := by
  unfold unSrc at h
  rw [List.getElem?_map] at h
  cases e : ρ[i]? with
  | none => rw [e] at h; cases h
  | some x =>
    rw [e] at h
    cases x with
    | none => cases h
    | some y =>
      cases y with
      | src => cases h
      | dat y => cases h; exact ⟨rfl, by simp⟩
      | own y => cases h; exact ⟨rfl, by simp⟩
      | scr y => cases h; exact ⟨rfl, by simp⟩
def sNew (i l : Nat) (ok : List Int → Int → Prop) (a : DE) (rest : DS) : DS := fun D ρ Er => noOwn ρ ∧ ∃ ns, ρ[l]? = some (some (.scr ns)) ∧ a ρ (fun d ρ1 => ρ1 = ρ ∧ match d with
  | .int j => ok ns j ∧ rest { D with nx := fun ρ2 => D.nx (unSrc ρ2), bk := fun ρ2 => D.bk (unSrc ρ2), ct := fun ρ2 => D.ct (unSrc ρ2) } (ρ.set i (some .src)) Er
  | _ => False) Er
theorem db_new {i l k j0 : Nat} {x y : Str} {px py p2 p3 : Pos} {b : Expr} {db : DE} {rest : List Stmt} {dr : DS} {ok : List Int → Int → Prop} (c : Cal X.prog X.w X.K X.mg X.base k x (spN X.K ok)) (hr : Room j0 X.A) (hk : k ≤ j0) (hgd : X.A.guards = some [])
    (hv : PE X (.Name y py) (tVar l)) (hb : DEx X EX b db) {z : Str} (mk : ∀ te, PE X (.Call (.Name x p2) [.Name y py, b] [] p3) te → PS X (.Assign [.Name z px] (.Call (.Name x p2) [.Name y py, b] [] p3) pos) (tAsg te (gName i))) (hrest : DBx X EX rest dr)
    (hg : Gl X x := by rfl) (hdb : (x == ("__debug__" : Str)) = false := by decide)
    (he : starEach [.Name y py, b] X.env = (false, eval (.Name y py) X.env) :: starEach [b] X.env := by rfl) (he2 : starEach [b] X.env = (false, eval b X.env) :: starEach [] X.env := by rfl) (hpl : (backTo p3 (starEach [b] X.env)).any (·.1) = false := by rfl) :
    DBx X EX (.Assign [.Name z px] (.Call (.Name x p2) [.Name y py, b] [] p3) pos :: rest) (sNew i l ok db dr) := by
  obtain ⟨fa, fd, ps, F, g, kp, bd⟩ := c.ex
  obtain ⟨t, p, q⟩ := hb.ex
  obtain ⟨t2, p2', q2⟩ := hrest.ex
  refine ⟨_, pss_cons (mk _ (pe_callG (E := EX) F (hr.mono hk) hgd hg g kp bd passE (pa_cons hv (pa_cons p pa_nil he2) he) hdb he hpl)) p2', fun s H0 W0 W σ ρ H D Er E S eo hd kk => ?_⟩
  obtain ⟨hno, ns, hl, hd⟩ := hd
  obtain ⟨v, g1, c, rfl, hc⟩ := S.slot l _ hl
  refine ⟨_, g1, q s H0 W0 W σ ρ H _ Er _ S eo hd fun u d W1 ρ1 H1 hd1 s1 e1 S1 w1 => ?_⟩
  obtain ⟨rfl, hd1⟩ := hd1
  split at hd1
  · rename_i j
    cases w1
    refine ⟨c, ns, W1, j, rfl, S1.tr, hc.go fun o n h => ⟨e1 c o n h, fun z => n (s1 _ z)⟩, hd1.1, fun p H2 sm hp hsrc => ?_⟩
    show t2 E (σ.set i (some (.ref p))) H2
    have S2 := S1.same sm
    have hp0 := S1.fresh0 hp
    have hsp : s ≠ some p := fun e => by
      obtain ⟨_, _, x, z, q, _⟩ := S1.src p e
      rw [hp] at q; cases q
    have exp : ∀ {v x}, Dw X.K H1 W1 v x → Dw X.K H2 (p :: W1) v x := fun {v x} h => (Dw.new (o := .lst []) hp h).to (fun b o n h => by
      rw [upd_ne (fun e => n (by rw [e]; exact List.mem_cons_self))] at h
      exact sm b o h) fun _ z => z
    have Sn : SOk X.K H2 (p :: W1) (some p) (p :: W1) (σ.set i (some (.ref p))) (ρ1.set i (some .src)) H2 := by
      have tr : ∀ a ∈ p :: W1, ∃ o, H2 a = some o := fun a ha => by
        rcases List.mem_cons.mp ha with rfl | ha
        · obtain ⟨x, z, q, _⟩ := hsrc
          exact ⟨_, q⟩
        · exact S2.tr a ha
      refine ⟨fun _ z => z, tr, fun _ z => .inl z, tr, fun _ _ h _ => h, fun a ha => ?_, fun k d hk => ?_, fun k k2 v ds es h1 => ?_, by simp [S1.len]⟩
      · cases ha
        exact ⟨List.mem_cons_self, tr p List.mem_cons_self, hsrc⟩
      · by_cases e : i = k
        · subst e
          have il : i < ρ1.length := by simpa using (List.getElem?_eq_some_iff.mp hk).1
          rw [List.getElem?_set_self il] at hk
          cases hk
          exact ⟨_, by rw [List.getElem?_set_self (by rw [S1.len]; exact il)], p, rfl, rfl⟩
        · rw [List.getElem?_set_ne e] at hk
          rw [List.getElem?_set_ne e]
          obtain ⟨v, a1, a2⟩ := S1.slot k d hk
          refine ⟨v, a1, ?_⟩
          rcases hno k d hk with ⟨x, rfl⟩ | ⟨ms, rfl⟩
          · exact exp a2
          · obtain ⟨a, rfl, b1⟩ := a2
            exact ⟨a, rfl, b1.go fun o n h => ⟨sm a _ h, by simp only [List.mem_cons, not_or]; exact ⟨ne_of_none h hp, n⟩⟩⟩
      · exfalso
        by_cases e : i = k
        · subst e
          have il : i < ρ1.length := by simpa using (List.getElem?_eq_some_iff.mp h1).1
          rw [List.getElem?_set_self il] at h1
          cases h1
        · rw [List.getElem?_set_ne e] at h1
          rcases hno k _ h1 with ⟨x, e⟩ | ⟨ms, e⟩ <;> cases e
    have src0 : ∀ {H3 : Hp}, (∀ b o, H2 b = some o → some b ≠ some p → H3 b = some o) → ∀ a, s = some a → SrcAt H3 a := fun {H3} fr a ha => (S2.src a ha).2.2.stay fun o h => fr a o h (fun e => hsp (by rw [ha, e]))
    have fr0 : ∀ {H3 : Hp}, (∀ b o, H2 b = some o → some b ≠ some p → H3 b = some o) → ∀ b o, H0 b = some o → some b ≠ s → H3 b = some o := fun {H3} fr b o h n => fr b o (S2.frame b o h n) (fun e => by cases e; rw [hp0] at h; cases h)
    have eon : ErOk X.K H2 (p :: W1) (some p) EX Er := fun C d dd v H3 her fr hsr hdd hxd hdw =>
      eo C d dd v H3 her (fr0 fr) (src0 fr) (S2.fresh0 hdd) hxd (hdw.to (Ext.refl _ _) fun a ha => List.mem_cons_of_mem _ (S1.sub a ha))
    have back : ∀ {W' : List Addr} {σ' : St} {ρ' : Env'} {H3 : Hp}, SOk X.K H2 (p :: W1) (some p) W' σ' ρ' H3 → SOk X.K H0 W0 s W' σ' (unSrc ρ') H3 := fun {W' σ' ρ' H3} T => by
      refine ⟨fun a ha => T.sub a (List.mem_cons_of_mem _ (S1.sub a ha)), S1.tr0, fun a ha => ?_, T.tr, fr0 T.frame, fun a ha => ⟨(S1.src a ha).1, (S1.src a ha).2.1, src0 T.frame a ha⟩, fun k d hk => ?_, fun k k2 v ds es h1 h2 h3 h4 => T.uniq k k2 v ds es (unSrc_get h1).1 (unSrc_get h2).1 h3 h4, by rw [T.len]; simp [unSrc]⟩
      · rcases T.new a ha with z | z
        · rcases List.mem_cons.mp z with rfl | z
          · exact .inr hp0
          · exact S1.new a z
        · exact .inr (S2.fresh0 z)
      · obtain ⟨hk, hne⟩ := unSrc_get hk
        obtain ⟨v, a1, a2⟩ := T.slot k d hk
        refine ⟨v, a1, ?_⟩
        cases d with
        | dat d => exact a2
        | own es =>
          obtain ⟨a, ys, rfl, r1, r2, r3, r4⟩ := a2
          exact ⟨a, ys, rfl, r1, S2.fresh0 r2, r3, r4⟩
        | src => exact absurd rfl hne
        | scr ms => exact a2
    have st1 : Step W H (p :: W1) H2 := (Step.of s1 e1).trans ⟨Ext.same sm, fun x hx => by
      rcases List.mem_cons.mp hx with rfl | hx
      · exact .inr hp
      · exact .inl hx⟩
    exact q2 (some p) H2 (p :: W1) (p :: W1) _ _ H2 _ Er E Sn eon hd1.2 ⟨fun W' σ' ρ' H' h st T => kk.nx W' σ' _ H' h (st1.trans st) (back T), fun W' σ' ρ' H' v d h T w => kk.rt W' σ' _ H' v d h (back T) w,
      fun W' σ' ρ' H' h st T => kk.bk W' σ' _ H' h (st1.trans st) (back T), fun W' σ' ρ' H' h st T => kk.ct W' σ' _ H' h (st1.trans st) (back T)⟩
  · exact hd1.elim
end
end DD

/-! A def that makes a source; the law; the end. -/
namespace DD
open PySem L2
open PyProof.Rows (envOfC IntsAre AllBare)
/-! ### a block that ends by handing back a new list -/
abbrev DN := Env' → (List PyData → Prop) → Er' → Prop
structure DNx (X : Cx) (EX : XK) (st : List Stmt) (dn : DN) : Prop where
  ex : ∃ t, PSs X st t ∧ ∀ (s : Option Addr) (H0 : Hp) (W0 W : List Addr) (σ : St) (ρ : Env') (H : Hp) (R : List PyData → Prop) (Er : Er') (E : Ends), SOk X.K H0 W0 s W σ ρ H → ErOk X.K H0 W0 s EX Er → dn ρ R Er →
    (∀ (vs : List V) (ds : List PyData) (p : Addr) (W' : List Addr) (ρ' : Env') (H' : Hp), R ds → SOk X.K H0 W0 s W' σ ρ' H' ∨ (∃ σ', SOk X.K H0 W0 s W' σ' ρ' H') → H' p = none → DwA X.K H' W' vs ds → E.rt (.ref p) (upd H' p (.lst vs))) → t E σ H
def nRet (a : DA) : DN := fun ρ R Er => a ρ (fun ds _ => ds.length ≤ big ∧ R ds) Er
def nSeq (a : DS) (b : DN) : DN := fun ρ R Er => a { nx := fun ρ1 => b ρ1 R Er, rt := fun _ => False } ρ Er
section
variable {X : Cx} {EX : XK} {st : Stmt} {rest : List Stmt} {es : List Expr} {da : DA} {ds : DS} {dn : DN} {p2 pos : Pos}
theorem dn_ret (ha : DAx X EX es da) : DNx X EX [.Return (some (.List es p2)) pos] (nRet da) := by
  obtain ⟨t, p, q⟩ := ha.ex
  refine ⟨_, pss_one (ps_ret (pe_lst p)), fun s H0 W0 W σ ρ H R Er E S eo hd k => ?_⟩
  refine q s H0 W0 W σ ρ H _ Er _ S eo hd fun vs ds W1 ρ1 H1 hd1 s1 e1 S1 w1 => ⟨big_le (by rw [w1.length]; exact hd1.1), fun a ha => ?_⟩
  exact k vs ds a W1 ρ1 H1 hd1.2 (.inl S1) ha w1
theorem dn_cons (h1 : DSx X EX st ds) (h2 : DNx X EX rest dn) : DNx X EX (st :: rest) (nSeq ds dn) := by
  obtain ⟨t, p, q⟩ := h1.ex
  obtain ⟨t2, p2, q2⟩ := h2.ex
  refine ⟨_, pss_cons p p2, fun s H0 W0 W σ ρ H R Er E S eo hd k => ?_⟩
  refine q s H0 W0 W σ ρ H _ Er _ S eo hd ⟨fun W' σ' ρ' H' h st S' => ?_, fun _ _ _ _ _ _ h => h.elim, fun _ _ _ _ h => h.elim, fun _ _ _ _ h => h.elim⟩
  refine q2 s H0 W0 W' σ' ρ' H' R Er E S' eo h fun vs ds a W2 ρ2 H2 hR hS ha hq => ?_
  exact k vs ds a W2 ρ2 H2 hR (.inr (hS.elim (fun z => ⟨_, z⟩) id)) ha hq
end
section
variable {P : Program} {w : World} {K : Fg} {mg : Str → Option Value} {base : Heap}
def startN (n : Nat) (ns : List Int) (j : Int) : Env' := some (.scr ns) :: some (.dat (.int j)) :: List.replicate (n - 2) none
theorem fun_n0 {x qual : Str} {st : Stmt} {f : Addr} {fd : FuncData} {N ps : List Str} {k : Nat} {ok : List Int → Int → Prop} (F : Fun K x qual st f fd) (S : FnScope N ps (defScope st)) (hn : ps.length = 2) (hN : 2 ≤ N.length)
    (dn : DN) (h : ∀ (cdv : Value) (A : Around) (outer : List Env) (s : Shared) (H : Hp) (E : XK), Room k (A.deeper (envOfC qual (defScope st) s.heap.objs.size f cdv)) → A.guards = some [] → DNx (CXn P w K mg base N qual st f cdv A outer s H E) E0 (defBody st) dn)
    (hd : ∀ ns j, ok ns j → dn (startN N.length ns j) (fun ds => ∃ x y : Int, ds = [.int x, .int y] ∧ 0 ≤ x ∧ 0 ≤ y ∧ y < 2147483648) noEr) :
    FnG P w K mg base CX0 (k + 1) f fd ps (spN K ok) := by
  obtain ⟨oc, od, kV, doc, pm, an, cdv, ct, osl, rfl, lk, hcd⟩ := F.ex
  refine fn_g lk hcd S (fun vs H Q E h => ?_) fun A outer s H vs Q E hr hgd hsp => ?_
  · obtain ⟨c, ns, W, j, rfl, _⟩ := h
    rw [hn]; rfl
  obtain ⟨t, p, q⟩ := (h cdv A outer s H E hr hgd).ex
  obtain ⟨c, ns, W, j, rfl, hW, hsc, hok, k1⟩ := hsp
  refine ⟨t, p.nox, ?_⟩
  have e0 : L2.start N [V.ref c, V.int j] = some (V.ref c) :: some (V.int j) :: List.replicate (N.length - 2) none := rfl
  have S0 : SOk K H W none W (L2.start N [V.ref c, V.int j]) (startN N.length ns j) H := by
    rw [e0]
    refine ⟨fun _ z => z, hW, fun _ z => .inl z, hW, fun _ _ h _ => h, (fun _ z => nomatch z), fun i d h => ?_, fun i j v es fs h1 => ?_, by simp [startN]⟩
    · match i with
      | 0 => simp [startN] at h; subst h; exact ⟨_, rfl, c, rfl, hsc⟩
      | 1 => simp [startN] at h; subst h; exact ⟨_, rfl, .int _⟩
      | i + 2 =>
        simp only [startN, List.getElem?_cons_succ, List.getElem?_replicate] at h
        split at h <;> cases h
    · exfalso
      match i with
      | 0 => simp [startN] at h1
      | 1 => simp [startN] at h1
      | i + 2 =>
        simp only [startN, List.getElem?_cons_succ, List.getElem?_replicate] at h1
        split at h1 <;> cases h1
  refine q none H W W _ _ H _ noEr _ S0 erOk_no (hd ns j hok) fun vs ds a W2 ρ2 H2 hR hS ha hq => ?_
  obtain ⟨σ2, S2⟩ : ∃ σ', SOk K H W none W2 σ' ρ2 H2 := hS.elim (fun z => ⟨_, z⟩) id
  obtain ⟨x, y, rfl, h1, h2, h3⟩ := hR
  have hv : vs = [.int x, .int y] := by
    cases hq with
    | cons a1 b => cases b with
      | cons a2 c => cases c; cases a1; cases a2; rfl
  subst hv
  refine k1 a _ (fun b o hb => ?_) (S2.fresh0 ha) ⟨x, y, upd_same, h1, h2, h3⟩
  have := S2.frame b o hb (fun z => nomatch z)
  rw [upd_ne (ne_of_none this ha)]
  exact this
/-! ### the law: of the script alone -/
def spL (K : Fg) (ok : List Int → Prop) : Sp := fun vs H Q _ => ∃ (a : Addr) (ns : List Int), vs = [.ref a] ∧ ScrAt K H [] a (ns.map V.int) ∧ ok ns ∧ ∀ H', Q (.bl true) H'
theorem fun_l0 {x qual : Str} {st : Stmt} {f : Addr} {fd : FuncData} {N ps : List Str} {k : Nat} {ok : List Int → Prop} (F : Fun K x qual st f fd) (S : FnScope N ps (defScope st)) (hn : ps.length = 1) (hN : 1 ≤ N.length)
    (dt : DS) (h : ∀ (cdv : Value) (A : Around) (outer : List Env) (s : Shared) (H : Hp) (E : XK), Room k (A.deeper (envOfC qual (defScope st) s.heap.objs.size f cdv)) → A.guards = some [] → DBx (CXn P w K mg base N qual st f cdv A outer s H E) E0 (defBody st) dt)
    (hd : ∀ ns, ok ns → dt { nx := fun _ => False, rt := fun d => d = .bool true } (some (.scr ns) :: List.replicate (N.length - 1) none) noEr) :
    FnG P w K mg base CX0 (k + 1) f fd ps (spL K ok) := by
  obtain ⟨oc, od, kV, doc, pm, an, cdv, ct, osl, rfl, lk, hcd⟩ := F.ex
  refine fn_g lk hcd S (fun vs H Q E h => ?_) fun A outer s H vs Q E hr hgd hsp => ?_
  · obtain ⟨c, ns, rfl, _⟩ := h
    rw [hn]; rfl
  obtain ⟨t, p, q⟩ := (h cdv A outer s H E hr hgd).ex
  obtain ⟨c, ns, rfl, hsc, hok, k1⟩ := hsp
  refine ⟨t, p.nox, ?_⟩
  have e0 : L2.start N [V.ref c] = some (V.ref c) :: List.replicate (N.length - 1) none := rfl
  have S0 : SOk K H [] none [] (L2.start N [V.ref c]) (some (.scr ns) :: List.replicate (N.length - 1) none) H := by
    rw [e0]
    refine ⟨fun _ z => z, (fun _ z => absurd z (by simp)), fun _ z => .inl z, (fun _ z => absurd z (by simp)), fun _ _ h _ => h, (fun _ z => nomatch z), fun i d h => ?_, fun i j v es fs h1 => ?_, by simp⟩
    · match i with
      | 0 => simp at h; subst h; exact ⟨_, rfl, c, rfl, hsc⟩
      | i + 1 =>
        simp only [List.getElem?_cons_succ, List.getElem?_replicate] at h
        split at h <;> cases h
    · exfalso
      match i with
      | 0 => simp at h1
      | i + 1 =>
        simp only [List.getElem?_cons_succ, List.getElem?_replicate] at h1
        split at h1 <;> cases h1
  refine q none H [] [] _ _ H _ noEr _ S0 erOk_no (hd ns hok) ⟨fun _ _ _ _ h => h.elim, fun W' σ' ρ' H' v d h S' w' => ?_, fun _ _ _ _ h => h.elim, fun _ _ _ _ h => h.elim⟩
  subst h
  cases w'
  exact k1 H'
/-! ### the end -/
theorem law_run {mb : Str → Option Value} {k : Nat} {fa a : Addr} {fd : FuncData} {x : Str} {ok : List Int → Prop} {t : Shared} {vs : List Value} {ns : List Int} (KX : K.In t.heap) (g1 : t.heap.Ns mainGlobals mg) (g2 : t.heap.Ns builtinsNs mb) (g3 : ∀ y : Str, y ≠ "__name__" → mb y = bootBuiltins y)
    (nl : t.heap.NoLimit) (hg : t.gens = #[]) (ha : t.heap.get? a = some { cls := .type "list", data := .seq vs.toArray }) (hi : IntsAre vs ns) (hl : ns.length ≤ sizeLine) (hr : Room k callerA)
    (F : ∀ base : Heap, K.In base → base.Ns mainGlobals mg → FnG P w K mg base CX0 k fa fd [x] (spL K ok)) (hb : ∀ (s : Shared) (u : Value), BindsTo s fd ⟨[u], []⟩ [(x, u)]) (hok : ok ns) :
    codeAny (model P w) callerA (.call (.ref fa) ⟨[.ref a], []⟩) (fun r t' => r = .ok (.ret (.bool true)) ∧ OldK t.heap t'.heap ∧ t'.os = t.os ∧ AllBare t'.gens) t := by
  have rv := vals_ints hi
  have lv := hi.length
  -- H: nothing but, it may be, the script
  have core : ∀ H : Hp, (∀ b u, H b = some u → b = a ∧ K.lookup a = none ∧ u = .frz { cls := .type "list", data := .seq vs.toArray } (.lst (ns.map V.int))) → ScrAt K H [] a (ns.map V.int) →
      codeAny (model P w) callerA (.call (.ref fa) ⟨[.ref a], []⟩) (fun r t' => r = .ok (.ret (.bool true)) ∧ OldK t.heap t'.heap ∧ t'.os = t.os ∧ AllBare t'.gens) t := by
    intro H hO hS
    have ok0 : HOk P w H t.heap := fun b u e => by
      obtain ⟨rfl, _, rfl⟩ := hO b u e
      exact ⟨ha, by rw [List.length_map]; exact hl, vs, _, rv, ha⟩
    have none_of : ∀ {b : Addr} {o : Obj}, t.heap.get? b = some o → (b = a → o.data = .seq vs.toArray 0 → False) → H b = none := fun {b o} e n => by
      cases q : H b with
      | none => rfl
      | some u =>
        obtain ⟨rfl, _, _⟩ := hO b u q
        rw [ha] at e
        cases e
        exact (n rfl rfl).elim
    have ns_of : ∀ {b : Addr} {m : Str → Option Value}, t.heap.Ns b m → (hidT t.heap H).Ns b m := fun {b m} h => by
      obtain ⟨o, es, ep, e, d, r⟩ := h
      exact ⟨o, es, ep, hidT_get e (none_of e fun _ z => by rw [d] at z; cases z), d, r⟩
    have kb : K.In (hidT t.heap H) := fun b o e => hidT_get (KX b o e) (by
      cases q : H b with
      | none => rfl
      | some u =>
        obtain ⟨rfl, z, _⟩ := hO b u q
        rw [z] at e
        cases e)
    have md : Mod K mg (hidT t.heap H) := ⟨kb, ns_of g1, ⟨mb, ns_of g2, g3⟩, nl.elim fun mc h => ⟨mc, ns_of h.1, h.2⟩⟩
    have en : Env0 P w K mg (hidT t.heap H) callerA [] t H := ⟨rfl, md, fun b o e => of_hidT e, Nat.le_of_eq (hidT_size _ _), trivial, (fun b z => absurd (show b ∈ ([] : List Addr) from z) (by simp)), ok0, .of_eq hg⟩
    refine codeAny_mono ((F _ kb (ns_of g1)).run callerA [] t H ⟨[.ref a], []⟩ [.ref a] [.ref a] (fun v _ => v = .bl true) (fun _ _ _ => False) hr rfl en (hb t (.ref a)) (.cons rfl .nil) ⟨a, ns, rfl, hS, hok, fun _ => rfl⟩) fun r t' h => ?_
    rcases r with e | fl
    · exact (show False from h).elim
    · cases fl with
      | ret u =>
        obtain ⟨v, H', os, bare, un, ok', r', q⟩ := h
        have q' : v = .bl true := q
        subst q'
        obtain rfl : u = Value.bool true := r'
        refine ⟨rfl, OldK.of_keep fun b o e => ?_, os, bare⟩
        cases q : H b with
        | none => exact un.keep b o e q (fun z => absurd (show b ∈ ([] : List Addr) from z) (by simp)) (by simp)
        | some u =>
          obtain ⟨rfl, _, rfl⟩ := hO b u q
          obtain ⟨e2, _⟩ := ok' b _ (un.frzs b _ _ q)
          rw [ha] at e
          cases e
          exact e2
      | next => exact (show False from h).elim
      | brk => exact (show False from h).elim
      | cont => exact (show False from h).elim
  cases hk : K.lookup a with
  | some o =>
    have e := KX a o hk
    rw [ha] at e
    cases e
    exact core (fun _ => none) (fun b u z => nomatch z) (.inr ⟨_, vs.toArray, _, hk, rfl, rfl, rfl, by rw [List.size_toArray, lv]; exact hl, by simpa using rv⟩)
  | none =>
    refine core (upd (fun _ => none) a (.frz { cls := .type "list", data := .seq vs.toArray } (.lst (ns.map V.int)))) (fun b u z => ?_) (.inl ⟨by simp, _, upd_same⟩)
    by_cases e : b = a
    · subst e
      rw [upd_same] at z
      cases z
      exact ⟨rfl, hk, rfl⟩
    · rw [upd_ne e] at z
      cases z
end
open PySem.W in
theorem walk_g {l : OpenLaw} {n k : Nat} {q : Program} {loose : List Str} {XP : (Str → Option Value) → Heap → Prop} {YP : World → Heap → Prop} {d : DefRec} {K : Params → Frag} {x : Str} {ok : List Int → Prop} (hn : l.most = some n) (hn2 : n ≤ sizeLine) (hdf : d.params.defaults = []) (hr : Room k callerA)
    (hY : ∀ (w : World) (h : Heap), YP w h → (K w.params).In h)
    (F : ∀ (w : World) (mg : Str → Option Value) (fa : Addr) (h : Heap), (K w.params).In h → h.Ns mainGlobals mg → mg d.name = some (.ref fa) →
      ∃ fd : FuncData, (∀ (s : Shared) (u : Value), BindsTo s fd ⟨[u], []⟩ [(x, u)]) ∧ ∀ base : Heap, (K w.params).In base → base.Ns mainGlobals mg → FnG l.prog w (K w.params) mg base CX0 k fa fd [x] (spL (K w.params) ok))
    (hok : ∀ ns : List Int, ns.length ≤ n → (∀ z ∈ ns, Builtin.Int.intBits z ≤ 1048576) → ok ns) : WalkO q loose XP YP l.row.toRowW d [] (fun f vs => PySem.call f vs) := by
  refine Att.attach_callB hn hdf fun w s₀ t mg mb fa o pm cd doc a vs ns G Y ho hd hcd hmg hobj hints hlen hbits hg => ?_
  obtain ⟨fd, hb, hF⟩ := F w mg fa _ (hY w _ Y) G.T.g hmg
  exact law_run (hY w _ Y) G.T.g G.T.b G.T.builtins G.T.nolimit hg hobj hints (Nat.le_trans hlen hn2) hr hF hb (hok ns hlen hbits)
end DD

namespace DD
open PySem L2
/-- {k: ()} -/
theorem de_dict1t {X : Cx} {EX : XK} {k : Int} {j p1 p2 x1 pos} : DEx X EX (.Dict [some (.Constant (.int k) j p1)] [.Tuple [] x1 p2] pos) (dC (.dict [(.int k, .tuple [])])) := by
  refine ⟨_, pe_disp (pps_cons (pe_int (X := X)) (pe_tup pa_nil) pps_nil) rfl rfl (by simp) (by simp), fun s H0 W0 W σ ρ H R Er Q S eo hd kk => ?_⟩
  intro p hp
  refine ⟨by decide, fun q hq => ?_⟩
  have qp : p ≠ q := by rintro rfl; rw [upd_same] at hq; cases hq
  have hq0 : H q = none := by rw [upd_ne (Ne.symm qp)] at hq; exact hq
  refine ⟨by rw [upd_ne qp]; exact upd_same, [(.inl k, .ref q)], rfl, by simp, ?_⟩
  have sm : Same H (upd (upd (upd H p (.dK [])) q (.tup [])) p (.dK (mergeK [] [(Sum.inl k, V.ref q)]))) := fun b o e => by
    rw [upd_ne (ne_of_none e hp), upd_ne (ne_of_none e hq0), upd_ne (ne_of_none e hp)]; exact e
  refine kk _ _ W ρ _ hd (fun _ z => z) (Ext.same sm) (S.same sm) ?_
  refine .dct (kvs := [(.inl k, .ref q)]) (S.fresh hp) ?_ rfl ?_
  · rw [upd_same]; rfl
  · exact .cons (.tup (S.fresh hq0) (by rw [upd_ne (Ne.symm qp), upd_same]) .nil) .nil
end DD

namespace DD
open PySem L2
theorem def_mk {K : Fg} {h : Heap} {mg : Str → Option Value} (X : K.In h) (G : h.Ns mainGlobals mg) {x : Str} {st : Stmt} {f : Addr} {oc : Value} {od an : Option Addr} {osl : Array (Option Value)} {kV doc pm cdv ct : Value} {ps : List Str}
    (a : PySem.W.nsIn K mainGlobals x = some (some (.ref f))) (l : K.lookup f = some ⟨oc, od, .func (PySem.W.fnOf x x (defArgs st) (defBody st) (defScope st) .none kV doc pm an cdv ct), osl⟩)
    (c : PySem.W.codeIn K cdv x = true) (k : PySem.W.keepIn K (.ref f) = true)
    (hb : ∀ (kV doc pm : Value) (an : Option Addr) (cdv ct : Value) (us : List Value), us.length = ps.length → bindArgs (PySem.W.fnOf x x (defArgs st) (defBody st) (defScope st) .none kV doc pm an cdv ct) ⟨us, []⟩ = pure (ps.zip us)) : DefAt K mg x st ps := by
  have F := fun_mk (st := st) l c k
  exact ⟨f, _, F, PySem.W.mg_of X G a, F.binds hb⟩
theorem law_mk {K : Fg} {h : Heap} {mg : Str → Option Value} (X : K.In h) (G : h.Ns mainGlobals mg) {x y : Str} {st : Stmt} {f fa : Addr} {oc : Value} {od an : Option Addr} {osl : Array (Option Value)} {kV doc pm cdv ct : Value} (hmg : mg x = some (.ref fa))
    (a : PySem.W.nsIn K mainGlobals x = some (some (.ref f))) (l : K.lookup f = some ⟨oc, od, .func (PySem.W.fnOf x x (defArgs st) (defBody st) (defScope st) .none kV doc pm an cdv ct), osl⟩)
    (c : PySem.W.codeIn K cdv x = true) (k : PySem.W.keepIn K (.ref f) = true)
    (hb : ∀ (kV doc pm : Value) (an : Option Addr) (cdv ct : Value) (s : Shared) (u : Value), BindsTo s (PySem.W.fnOf x x (defArgs st) (defBody st) (defScope st) .none kV doc pm an cdv ct) ⟨[u], []⟩ [(y, u)]) :
    ∃ fd : FuncData, Fun K x x st fa fd ∧ ∀ (s : Shared) (u : Value), BindsTo s fd ⟨[u], []⟩ [(y, u)] := by
  have e := hmg.symm.trans (PySem.W.mg_of X G a)
  cases e
  exact ⟨_, fun_mk (st := st) l c k, hb _ _ _ _ _ _⟩
theorem glob_none {K : Fg} {h : Heap} {mg : Str → Option Value} (X : K.In h) (G : h.Ns mainGlobals mg) {x : Str} (a : PySem.W.nsIn K mainGlobals x = some none) : mg x = none := PySem.W.mg_none_of X G a
theorem glob_int {K : Fg} {h : Heap} {mg : Str → Option Value} (X : K.In h) (G : h.Ns mainGlobals mg) {x : Str} {i : Int} {t : Tok} (a : PySem.W.nsIn K mainGlobals x = some (some (.int i t))) : ∃ t, mg x = some (.int i t) := ⟨t, PySem.W.mg_of X G a⟩
end DD

namespace DD
open PySem L2
open PyProof.Rows (envOfC)
/-! ### what is asked of each def -/
def isW : PyData → Bool
  | .int _ => true
  | _ => false
def isFT (v : PyData) (l h : Int) : Bool := match v with
  | .int i => decide (l ≤ i) && decide (i ≤ h)
  | _ => false
def isTL (v : PyData) (n : Int) : Bool := match v with
  | .tuple xs => decide ((xs.length : Int) = n)
  | _ => false
def isStr (p : Int) (v : PyData) : Bool := match v with
  | .tuple [a, b] => match b with
    | .int j => isFT (.int j) 0 (p - 1) && isFT a 0 j
    | _ => false
  | _ => false
def lifeD (x : Int × Int) : PyData := .tuple [.int x.1, .int x.2]
def arePts (last : Int) (v : PyData) : Bool := match v with
  | .tuple xs => decide (xs.length ≤ 7) && xs.all (isStr (last + 1))
  | _ => false
def isTie (pts : List (Int × Int)) (v : PyData) : Bool := match v with
  | .tuple [a, b, first, e] => match a, b with
    | .int one, .int other => isFT (.int other) 0 ((pts.length : Int) - 1) && (isFT (.int one) 0 (other - 1) && (match pts[one.toNat]?, pts[other.toNat]? with
      | some x, some y => (match first with
        | .int f => isFT (.int f) (max x.1 y.1) (min x.2 y.2) && isFT e f (min x.2 y.2)
        | _ => false)
      | _, _ => false))
    | _, _ => false
  | _ => false
def areTies (pts : List (Int × Int)) (v : PyData) : Bool := match v with
  | .tuple xs => decide (xs.length ≤ 9) && xs.all (isTie pts)
  | _ => false
def lifeOf : PyData → Int × Int
  | .tuple [.int a, .int b] => (a, b)
  | _ => (0, 0)
def ptsOf : PyData → List (Int × Int)
  | .tuple xs => xs.map lifeOf
  | _ => []
def isNet (v : PyData) : Bool := match v with
  | .tuple [a, p, t] => match a with
    | .int l => isFT (.int l) 0 8 && (arePts l p && areTies (ptsOf p) t)
    | _ => false
  | _ => false
def f_is_whole : PF := fun ds R _ => ∀ v, ds = [v] → R (.bool (isW v))
def f_is_from_to : PF := fun ds R _ => ∃ v l h, ds = [v, .int l, .int h] ∧ R (.bool (isFT v l h))
def f_is_tuple_long : PF := fun ds R _ => ∃ v n, ds = [v, .int n] ∧ R (.bool (isTL v n))
def f_is_stretch_of : PF := fun ds R _ => ∃ p v, ds = [.int p, v] ∧ R (.bool (isStr p v))
def f_is_net : PF := fun ds R _ => ∃ v, ds = [v] ∧ R (.bool (isNet v))
def f_are_points : PF := fun ds R _ => ∃ l v, ds = [.int l, v] ∧ R (.bool (arePts l v))
def f_are_ties : PF := fun ds R _ => ∃ pts v, ds = [.tuple (pts.map lifeD), v] ∧ R (.bool (areTies pts v))
def f_is_tie : PF := fun ds R _ => ∃ pts v, ds = [.tuple (pts.map lifeD), v] ∧ R (.bool (isTie pts v))
/-! draws -/
def f__law_draw : PF := fun ds R _ => ∃ n : Int, ds = [.int n] ∧ 0 < n ∧ n < 1073741824 ∧ ∀ k : Int, 0 ≤ k → k < n → R (.int k)
def f__law_pick : PF := fun ds R _ => ∃ xs, (ds = [.list xs] ∨ ds = [.tuple xs]) ∧ xs ≠ [] ∧ xs.length ≤ 100000 ∧ ∀ x ∈ xs, R x
def f__law_mixed : PF := fun ds R _ => ∃ xs, ds = [.list xs] ∧ (∀ x ∈ xs, x.canLay0 = true ∧ x.depth ≤ 62) ∧ xs.length ≤ 10000 ∧ ∀ ys : List PyData, ys.length = xs.length → (∀ y ∈ ys, y ∈ xs) → R (.list ys)
def f__law_life : PF := fun ds R _ => ∃ (lo hi : Int) (s : Bool), ds = [.int lo, .int hi, .bool s] ∧ lo ≤ hi ∧ hi - lo < 1000000 ∧ ∀ a b : Int, lo ≤ a → a ≤ b → b ≤ hi → R (lifeD (a, b))
/-- a tie of points -/
def TieOk (pts : List (Int × Int)) (d : PyData) : Prop := ∃ (i j : Nat) (x y : Int × Int) (f e : Int), d = .tuple [.int (i : Int), .int (j : Int), .int f, .int e] ∧ i < j ∧ pts[i]? = some x ∧ pts[j]? = some y ∧ max x.1 y.1 ≤ f ∧ f ≤ e ∧ e ≤ min x.2 y.2
def pairD (i j : Nat) : PyData := .tuple [.int (i : Int), .int (j : Int)]
def f__law_ties : PF := fun ds R _ => ∃ (pts : List (Int × Int)) (prs : List PyData) (many : Int) (g : Bool), ds = [.list (pts.map lifeD), .list prs, .int many, .bool g] ∧ prs ≠ [] ∧ prs.length ≤ 100000 ∧
  (∀ p ∈ prs, ∃ i j : Nat, p = pairD i j ∧ i < j ∧ j < pts.length) ∧ (∀ x ∈ pts, 0 ≤ x.1 ∧ x.1 ≤ x.2 ∧ x.2 ≤ 1000) ∧ 0 ≤ many ∧ many ≤ 100 ∧ ∀ ts : List PyData, (ts.length : Int) ≤ many → (∀ t ∈ ts, TieOk pts t) → R (.tuple ts)
def NetOk (l : Int) (pts : List (Int × Int)) (ts : List PyData) : Prop := 0 ≤ l ∧ l < 8 ∧ 1 ≤ pts.length ∧ pts.length ≤ 7 ∧ (∀ x ∈ pts, 0 ≤ x.1 ∧ x.1 ≤ x.2 ∧ x.2 ≤ l) ∧ ts.length ≤ 7 ∧ ∀ t ∈ ts, TieOk pts t
def netD (l : Int) (pts : List (Int × Int)) (ts : List PyData) : PyData := .tuple [.int l, .tuple (pts.map lifeD), .tuple ts]
def f__law_net : PF := fun ds R _ => ∃ (most days : Int) (g : Bool), ds = [.int most, .int days, .bool g] ∧ 0 < most ∧ most ≤ 7 ∧ 0 < days ∧ days ≤ 8 ∧ ∀ l pts ts, NetOk l pts ts → R (netD l pts ts)
def f__law_same : PF := fun ds R _ => ∃ a b : Bool, ds = [.bool a, .bool b] ∧ R (.bool (decide (a = b)))
/-! what repr may be asked of: small things -/
def leafD : PyData → Bool
  | .none => true
  | .bool _ => true
  | .int i => decide (-(10 ^ 60) ≤ i) && decide (i ≤ 10 ^ 60)
  | .str x => decide (x.length ≤ 20) && (x.cps.toList.all fun c => decide (c < 128))
  | _ => false
def lv1 : PyData → Bool
  | .list xs => decide (xs.length ≤ 8) && xs.all leafD
  | .tuple xs => decide (xs.length ≤ 8) && xs.all leafD
  | d => leafD d
def lv2 : PyData → Bool
  | .list xs => decide (xs.length ≤ 40) && xs.all lv1
  | .tuple xs => decide (xs.length ≤ 40) && xs.all lv1
  | d => leafD d
def lv3 : PyData → Bool
  | .list xs => decide (xs.length ≤ 8) && xs.all lv2
  | .tuple xs => decide (xs.length ≤ 8) && xs.all lv2
  | d => leafD d
def f__law_odd : PF := fun ds R _ => ds = [] ∧ ∀ d, lv3 d = true ∨ d = .dict [] → R d
def f__law_odd_net : PF := fun ds R _ => ds = [] ∧ ∀ d, isNet d = false → R d
def f__law_is_number : PF := f_is_from_to
def lLife (v : PyData) (l h : Int) : Bool := match v with
  | .tuple [c, b] => match c with
    | .int a => isFT (.int a) l h && isFT b a h
    | _ => false
  | _ => false
def f__law_is_life : PF := fun ds R _ => ∃ v l h, ds = [v, .int l, .int h] ∧ R (.bool (lLife v l h))
def lTie (v : PyData) (pts : List (Int × Int)) : Bool := match v with
  | .tuple [a, b, f, e] => match b with
    | .int other => isFT (.int other) 1 ((pts.length : Int) - 1) && (match a with
      | .int one => isFT (.int one) 0 (other - 1) && (match pts[one.toNat]?, pts[other.toNat]? with
        | some x, some y => lLife (.tuple [f, e]) (max x.1 y.1) (min x.2 y.2)
        | _, _ => false)
      | _ => false)
    | _ => false
  | _ => false
def f__law_is_tie : PF := fun ds R _ => ∃ v pts, ds = [v, .tuple (pts.map lifeD)] ∧ R (.bool (lTie v pts))
def lNet (v : PyData) : Bool := match v with
  | .tuple [a, b, c] => match a with
    | .int l => isFT (.int l) 0 8 && (match b with
      | .tuple ps => decide (ps.length ≤ 7) && (match c with
        | .tuple ts => decide (ts.length ≤ 9) && ((ps.all fun x => lLife x 0 l) && ts.all fun t => lTie t (ps.map lifeOf))
        | _ => false)
      | _ => false)
    | _ => false
  | _ => false
def f__law_is_net : PF := fun ds R _ => ∃ v, ds = [v] ∧ R (.bool (lNet v))
def f__law_put : PF := fun ds R _ => ∃ (xs : List PyData) (k : Nat) (t : PyData), ds = [.tuple xs, .int (k : Int), t] ∧ k ≤ xs.length ∧ xs.length ≤ 1000 ∧ R (.tuple (xs.take k ++ [t] ++ xs.drop (k + 1)))
/-- a net, or what came of one by a bent point -/
def Net2 (d : PyData) : Prop := ∃ (l : Int) (ps ts : List PyData), d = .tuple [.int l, .tuple ps, .tuple ts] ∧ 0 ≤ l ∧ l < 8 ∧ 1 ≤ ps.length ∧ ps.length ≤ 8 ∧ ts.length ≤ 7 ∧ (∀ x ∈ ps, lv1 x = true) ∧
  ∀ t ∈ ts, ∃ a b c e : Int, t = .tuple [.int a, .int b, .int c, .int e] ∧ (-100 ≤ a ∧ a ≤ 100) ∧ (-100 ≤ b ∧ b ≤ 100) ∧ (-100 ≤ c ∧ c ≤ 100) ∧ (-100 ≤ e ∧ e ≤ 100)
def f__law_bent_point : PF := fun ds R _ => ∃ d, ds = [d] ∧ Net2 d ∧ (∀ l ps ts, d = .tuple [.int l, .tuple ps, .tuple ts] → ps.length ≤ 7) ∧ ∀ e, Net2 e → lv3 e = true → R e
def f__law_bent_tie : PF := fun ds R _ => ∃ d, ds = [d] ∧ Net2 d ∧ ∀ e, lv3 e = true → R e
def f__law_bent : PF := fun ds R _ => ∃ d, ds = [d] ∧ Net2 d ∧ (∀ l ps ts, d = .tuple [.int l, .tuple ps, .tuple ts] → ps.length ≤ 7) ∧ ∀ e, lv3 e = true → R e
def BitsOk (ns : List Int) : Prop := ∀ n ∈ ns, Builtin.Int.intBits n ≤ 1048576
def ok__law_source : List Int → Int → Prop := fun ns j => BitsOk ns ∧ 0 ≤ j ∧ j ≤ 3
def ok_law : List Int → Prop := fun ns => BitsOk ns ∧ ns.length ≤ 63
def top (i : Nat) : Stmt := PySem.Challenge.pw_staybars_k01_nets_judged.main.body.getD i (.Pass ⟨0, 0, 0, 0⟩)
abbrev s_is_whole : Stmt := top 1
theorem sc_is_whole : FnScope ["value"] ["value"] (defScope s_is_whole) := ⟨rfl, rfl, rfl, by decide +kernel, rfl, by decide +kernel, by decide +kernel⟩
def d_is_whole : DS := (sRet (dAnd (dIsi "int" (dVar 0)) (dNot (dIsi "bool" (dVar 0)))))
abbrev s_is_from_to : Stmt := top 2
theorem sc_is_from_to : FnScope ["value", "low", "high"] ["value", "low", "high"] (defScope s_is_from_to) := ⟨rfl, rfl, rfl, by decide +kernel, rfl, by decide +kernel, by decide +kernel⟩
def d_is_from_to : DS := (sRet (dAnd (dFn (fun ds R Er => ds.length = 1 ∧ f_is_whole ds R Er) (dCons (dVar 0) dNil)) (dChain fLe fLe (dVar 1) (dVar 0) (dVar 2))))
abbrev s_is_tuple_long : Stmt := top 3
theorem sc_is_tuple_long : FnScope ["value", "many"] ["value", "many"] (defScope s_is_tuple_long) := ⟨rfl, rfl, rfl, by decide +kernel, rfl, by decide +kernel, by decide +kernel⟩
def d_is_tuple_long : DS := (sRet (dAnd (dIsi "tuple" (dVar 0)) (dOp fEq (dCall fLen (dCons (dVar 0) dNil)) (dVar 1))))
abbrev s_is_stretch_of : Stmt := top 4
theorem sc_is_stretch_of : FnScope ["places", "value", "a", "b"] ["places", "value"] (defScope s_is_stretch_of) := ⟨rfl, rfl, rfl, by decide +kernel, rfl, by decide +kernel, by decide +kernel⟩
def d_is_stretch_of : DS := (sSeq (sIf (dTNot (dTru (dFn (fun ds R Er => ds.length = 2 ∧ f_is_tuple_long ds R Er) (dCons (dVar 1) (dCons (dC (.int 2)) dNil))))) (sRet (dC (.bool false))) sNil) (sSeq (sAsg (dVar 1) (gT 2 (gCons' (gN 2) (gCons' (gN 3) gNil')))) (sRet (dAnd (dFn (fun ds R Er => ds.length = 3 ∧ f_is_from_to ds R Er) (dCons (dVar 3) (dCons (dC (.int 0)) (dCons (dOp fSub (dVar 0) (dC (.int 1))) dNil)))) (dFn (fun ds R Er => ds.length = 3 ∧ f_is_from_to ds R Er) (dCons (dVar 2) (dCons (dC (.int 0)) (dCons (dVar 3) dNil))))))))
abbrev s_is_net : Stmt := top 9
theorem sc_is_net : FnScope ["value", "last", "points", "ties"] ["value"] (defScope s_is_net) := ⟨rfl, rfl, rfl, by decide +kernel, rfl, by decide +kernel, by decide +kernel⟩
def d_is_net : DS := (sSeq (sIf (dTNot (dTru (dFn (fun ds R Er => ds.length = 2 ∧ f_is_tuple_long ds R Er) (dCons (dVar 0) (dCons (dC (.int 3)) dNil))))) (sRet (dC (.bool false))) sNil) (sSeq (sAsg (dVar 0) (gT 3 (gCons' (gN 1) (gCons' (gN 2) (gCons' (gN 3) gNil'))))) (sRet (dAnd (dFn (fun ds R Er => ds.length = 3 ∧ f_is_from_to ds R Er) (dCons (dVar 1) (dCons (dC (.int 0)) (dCons (dC (.int 8)) dNil)))) (dAnd (dFn (fun ds R Er => ds.length = 2 ∧ f_are_points ds R Er) (dCons (dVar 1) (dCons (dVar 2) dNil))) (dFn (fun ds R Er => ds.length = 2 ∧ f_are_ties ds R Er) (dCons (dVar 2) (dCons (dVar 3) dNil))))))))
abbrev s_are_points : Stmt := top 10
theorem sc_are_points : FnScope ["last", "value", "life"] ["last", "value"] (defScope s_are_points) := ⟨rfl, rfl, rfl, by decide +kernel, rfl, by decide +kernel, by decide +kernel⟩
def d_are_points : DS := (sSeq (sIf (dTOr (dTNot (dTru (dIsi "tuple" (dVar 1)))) (dTOp fGt (dCall fLen (dCons (dVar 1) dNil)) (dC (.int 7)))) (sRet (dC (.bool false))) sNil) (sRet (dCall fAll (dCons (dLc (dSeq (dVar 1)) (gN 2) dYes (dFn (fun ds R Er => ds.length = 2 ∧ f_is_stretch_of ds R Er) (dCons (dOp fAdd (dVar 0) (dC (.int 1))) (dCons (dVar 2) dNil))) [2]) dNil))))
abbrev s_are_ties : Stmt := top 11
theorem sc_are_ties : FnScope ["points", "value", "tie"] ["points", "value"] (defScope s_are_ties) := ⟨rfl, rfl, rfl, by decide +kernel, rfl, by decide +kernel, by decide +kernel⟩
def d_are_ties : DS := (sSeq (sIf (dTOr (dTNot (dTru (dIsi "tuple" (dVar 1)))) (dTOp fGt (dCall fLen (dCons (dVar 1) dNil)) (dC (.int 9)))) (sRet (dC (.bool false))) sNil) (sRet (dCall fAll (dCons (dLc (dSeq (dVar 1)) (gN 2) dYes (dFn (fun ds R Er => ds.length = 2 ∧ f_is_tie ds R Er) (dCons (dVar 0) (dCons (dVar 2) dNil))) [2]) dNil))))
abbrev s_is_tie : Stmt := top 12
theorem sc_is_tie : FnScope ["points", "value", "one", "other", "first", "end", "born", "gone"] ["points", "value"] (defScope s_is_tie) := ⟨rfl, rfl, rfl, by decide +kernel, rfl, by decide +kernel, by decide +kernel⟩
def d_is_tie : DS := (sSeq (sIf (dTNot (dTru (dFn (fun ds R Er => ds.length = 2 ∧ f_is_tuple_long ds R Er) (dCons (dVar 1) (dCons (dC (.int 4)) dNil))))) (sRet (dC (.bool false))) sNil) (sSeq (sAsg (dVar 1) (gT 4 (gCons' (gN 2) (gCons' (gN 3) (gCons' (gN 4) (gCons' (gN 5) gNil')))))) (sSeq (sIf (dTOr (dTNot (dTru (dFn (fun ds R Er => ds.length = 3 ∧ f_is_from_to ds R Er) (dCons (dVar 3) (dCons (dC (.int 0)) (dCons (dOp fSub (dCall fLen (dCons (dVar 0) dNil)) (dC (.int 1))) dNil)))))) (dTNot (dTru (dFn (fun ds R Er => ds.length = 3 ∧ f_is_from_to ds R Er) (dCons (dVar 2) (dCons (dC (.int 0)) (dCons (dOp fSub (dVar 3) (dC (.int 1))) dNil))))))) (sRet (dC (.bool false))) sNil) (sSeq (sSet 6 (dCall fMax2 (dCons (dOp fIx (dOp fIx (dVar 0) (dVar 2)) (dC (.int 0))) (dCons (dOp fIx (dOp fIx (dVar 0) (dVar 3)) (dC (.int 0))) dNil)))) (sSeq (sSet 7 (dCall fMin2 (dCons (dOp fIx (dOp fIx (dVar 0) (dVar 2)) (dC (.int 1))) (dCons (dOp fIx (dOp fIx (dVar 0) (dVar 3)) (dC (.int 1))) dNil)))) (sRet (dAnd (dFn (fun ds R Er => ds.length = 3 ∧ f_is_from_to ds R Er) (dCons (dVar 4) (dCons (dVar 6) (dCons (dVar 7) dNil)))) (dFn (fun ds R Er => ds.length = 3 ∧ f_is_from_to ds R Er) (dCons (dVar 5) (dCons (dVar 4) (dCons (dVar 7) dNil)))))))))))
abbrev s__law_source : Stmt := top 14
theorem sc__law_source : FnScope ["_law_script", "_law_start", "_law_mixed_here", "_law_cell", "_law_own"] ["_law_script", "_law_start"] (defScope s__law_source) := ⟨rfl, rfl, rfl, by decide +kernel, rfl, by decide +kernel, by decide +kernel⟩
def d__law_source : DN := (nSeq (sSet 2 (dOp fAdd (dC (.int 101)) (dVar 1))) (nSeq (sFor (dScr 0) (gN 3) (sSet 2 (dOp fAdd (dOp fMod (dCall fInt (dCons (dOp fPow (dCall fInt (dCons (dOp fAdd (dOp fMul (dVar 2) (dC (.int 50021))) (dCall fInt (dCons (dVar 3) dNil))) dNil)) (dC (.int 3))) dNil)) (dC (.int 2147483563))) (dC (.int 1))))) (nSeq (sSet 4 (dC (.int 0))) (nSeq (sIf (dTAnd (dTOp fLt (dVar 1) (dLenO 0)) (dTOp fGe (dScrIx 0 (dVar 1)) (dOp fPow (dC (.int 10)) (dC (.int 18))))) (sSet 4 (dOp fSub (dScrIx 0 (dVar 1)) (dOp fPow (dC (.int 10)) (dC (.int 18))))) sNil) (nRet (dCons (dVar 4) (dCons (dVar 2) dNil)))))))
abbrev s__law_draw : Stmt := top 15
theorem sc__law_draw : FnScope ["_law_source_here", "_law_span", "_law_found"] ["_law_source_here", "_law_span"] (defScope s__law_draw) := ⟨rfl, rfl, rfl, by decide +kernel, rfl, by decide +kernel, by decide +kernel⟩
def d__law_draw : DS := (sSeq (sIf (dTOp fGe (dSrc0 0) (dVar 1)) (sSeq (sSet 2 (dOp fMod (dCall fInt (dCons (dSrc0 0) dNil)) (dVar 1))) (sSeq (sSrc0 0 (dOp fDiv (dSrc0 0) (dVar 1))) (sRet (dVar 2)))) sNil) (sSeq (sSrc1 0 (dOp fMod (dCall fInt (dCons (dOp fAdd (dOp fMul (dSrc1 0) (dC (.int 69621))) (dC (.int 7129))) dNil)) (dC (.int 2147483647)))) (sRet (dOp fMod (dCall fInt (dCons (dOp fDiv (dOp fMod (dCall fInt (dCons (dOp fPow (dCall fInt (dCons (dSrc1 0) dNil)) (dC (.int 5))) dNil)) (dC (.int 1000000007))) (dC (.int 41))) dNil)) (dVar 1)))))
abbrev s__law_pick : Stmt := top 16
theorem sc__law_pick : FnScope ["_law_source_here", "_law_some"] ["_law_source_here", "_law_some"] (defScope s__law_pick) := ⟨rfl, rfl, rfl, by decide +kernel, rfl, by decide +kernel, by decide +kernel⟩
def d__law_pick : DS := (sRet (dOp fIx (dVar 1) (dFnS 0 (fun ds R Er => ds.length + 1 = 2 ∧ f__law_draw ds R Er) (dCons (dCall fLen (dCons (dVar 1) dNil)) dNil))))
abbrev s__law_mixed : Stmt := top 17
theorem sc__law_mixed : FnScope ["_law_source_here", "_law_some", "_law_lot", "_law_found"] ["_law_source_here", "_law_some"] (defScope s__law_mixed) := ⟨rfl, rfl, rfl, by decide +kernel, rfl, by decide +kernel, by decide +kernel⟩
def d__law_mixed : DS := (sSeq (sParLN 2 3 (dVar 1)) (sSeq (sWhile (dTNeO 2 (dLst dNil)) (sApp 3 (dPop 2 (dFnS 0 (fun ds R Er => ds.length + 1 = 2 ∧ f__law_draw ds R Er) (dCons (dLenO 2) dNil))))) (sRet (dVarF 3))))
abbrev s__law_life : Stmt := top 18
theorem sc__law_life : FnScope ["_law_source_here", "_law_low", "_law_high", "_law_stays_on", "_law_first", "_law_end"] ["_law_source_here", "_law_low", "_law_high", "_law_stays_on"] (defScope s__law_life) := ⟨rfl, rfl, rfl, by decide +kernel, rfl, by decide +kernel, by decide +kernel⟩
def d__law_life : DS := (sSeq (sSet 4 (dOp fAdd (dVar 1) (dFnS 0 (fun ds R Er => ds.length + 1 = 2 ∧ f__law_draw ds R Er) (dCons (dOp fAdd (dOp fSub (dVar 2) (dVar 1)) (dC (.int 1))) dNil)))) (sSeq (sSet 5 (dOp fAdd (dVar 4) (dFnS 0 (fun ds R Er => ds.length + 1 = 2 ∧ f__law_draw ds R Er) (dCons (dOp fAdd (dOp fSub (dVar 2) (dVar 4)) (dC (.int 1))) dNil)))) (sSeq (sIf (dTru (dVar 3)) (sSeq (sPar 4 5 (dCons (dOp fAdd (dVar 1) (dFnS 0 (fun ds R Er => ds.length + 1 = 2 ∧ f__law_draw ds R Er) (dCons (dCall fMin2 (dCons (dC (.int 2)) (dCons (dOp fAdd (dOp fSub (dVar 2) (dVar 1)) (dC (.int 1))) dNil))) dNil))) (dCons (dVar 2) dNil))) (sSet 5 (dCall fMax2 (dCons (dVar 4) (dCons (dOp fSub (dVar 5) (dFnS 0 (fun ds R Er => ds.length + 1 = 2 ∧ f__law_draw ds R Er) (dCons (dC (.int 2)) dNil))) dNil))))) sNil) (sRet (dTup (dCons (dVar 4) (dCons (dVar 5) dNil)))))))
abbrev s__law_ties : Stmt := top 19
theorem sc__law_ties : FnScope ["_law_source_here", "_law_points", "_law_pairs", "_law_many", "_law_grows", "_law_found", "_law_turn", "_law_one", "_law_other", "_law_low", "_law_high", "_law_first", "_law_end"] ["_law_source_here", "_law_points", "_law_pairs", "_law_many", "_law_grows"] (defScope s__law_ties) := ⟨rfl, rfl, rfl, by decide +kernel, rfl, by decide +kernel, by decide +kernel⟩
def d__law_ties : DS := (sSeq (sSetO 5 dNil) (sSeq (sFor (dRange1 (dVar 3)) (gN 6) (sSeq (sAsg (dFnS 0 (fun ds R Er => ds.length + 1 = 2 ∧ f__law_pick ds R Er) (dCons (dVar 2) dNil)) (gT 2 (gCons' (gN 7) (gCons' (gN 8) gNil')))) (sSeq (sSet 9 (dCall fMax2 (dCons (dOp fIx (dOp fIx (dVar 1) (dVar 7)) (dC (.int 0))) (dCons (dOp fIx (dOp fIx (dVar 1) (dVar 8)) (dC (.int 0))) dNil)))) (sSeq (sSet 10 (dCall fMin2 (dCons (dOp fIx (dOp fIx (dVar 1) (dVar 7)) (dC (.int 1))) (dCons (dOp fIx (dOp fIx (dVar 1) (dVar 8)) (dC (.int 1))) dNil)))) (sIf (dTOp fLe (dVar 9) (dVar 10)) (sSeq (sAsg (dFnS 0 (fun ds R Er => ds.length + 1 = 4 ∧ f__law_life ds R Er) (dCons (dVar 9) (dCons (dVar 10) (dCons (dOp fEq (dFnS 0 (fun ds R Er => ds.length + 1 = 2 ∧ f__law_draw ds R Er) (dCons (dC (.int 3)) dNil)) (dC (.int 0))) dNil)))) (gT 2 (gCons' (gN 11) (gCons' (gN 12) gNil')))) (sApp 5 (dTup (dCons (dVar 7) (dCons (dVar 8) (dCons (dVar 11) (dCons (dIf (dTru (dVar 4)) (dVar 10) (dVar 12)) dNil))))))) sNil))))) (sRet (dCall fTupOf (dCons (dVarF 5) dNil)))))
abbrev s__law_net : Stmt := top 20
theorem sc__law_net : FnScope ["_law_source_here", "_law_most", "_law_days", "_law_grows", "_law_last", "_law_kind", "_law_points", "_law_turn", "_law_first", "_law_end", "_law_pairs", "_law_other", "_law_one"] ["_law_source_here", "_law_most", "_law_days", "_law_grows"] (defScope s__law_net) := ⟨rfl, rfl, rfl, by decide +kernel, rfl, by decide +kernel, by decide +kernel⟩
def d__law_net : DS := (sSeq (sAsg (dTup (dCons (dFnS 0 (fun ds R Er => ds.length + 1 = 2 ∧ f__law_draw ds R Er) (dCons (dVar 2) dNil)) (dCons (dFnS 0 (fun ds R Er => ds.length + 1 = 2 ∧ f__law_draw ds R Er) (dCons (dC (.int 3)) dNil)) dNil))) (gT 2 (gCons' (gN 4) (gCons' (gN 5) gNil')))) (sSeq (sSet 6 (dLc (dRange1 (dOp fAdd (dC (.int 1)) (dCall fMax2 (dCons (dFnS 0 (fun ds R Er => ds.length + 1 = 2 ∧ f__law_draw ds R Er) (dCons (dVar 1) dNil)) (dCons (dVar 5) dNil))))) (gN 7) dYes (dFnS 0 (fun ds R Er => ds.length + 1 = 4 ∧ f__law_life ds R Er) (dCons (dC (.int 0)) (dCons (dVar 4) (dCons (dOp fGt (dVar 5) (dC (.int 0))) dNil)))) [7])) (sSeq (sIf (dTru (dVar 3)) (sSet 6 (dLc (dSeq (dVar 6)) (gT 2 (gCons' (gN 8) (gCons' (gN 9) gNil'))) dYes (dTup (dCons (dVar 8) (dCons (dVar 4) dNil))) [8, 9])) sNil) (sSeq (sSet 10 (dLst dNil)) (sSeq (sFor (dRange1 (dCall fLen (dCons (dVar 6) dNil))) (gN 11) (sSet 10 (dOp fAdd (dVar 10) (dLc (dRange1 (dVar 11)) (gN 12) dYes (dTup (dCons (dVar 12) (dCons (dVar 11) dNil))) [12])))) (sSeq (sIf (dTOp fEq (dVar 10) (dLst dNil)) (sRet (dTup (dCons (dVar 4) (dCons (dCall fTupOf (dCons (dVar 6) dNil)) (dCons (dTup dNil) dNil))))) sNil) (sSeq (sSet 10 (dSl (dFnS 0 (fun ds R Er => ds.length + 1 = 2 ∧ f__law_mixed ds R Er) (dCons (dVar 10) dNil)) dNoPart (dPart (dOp fAdd (dC (.int 2)) (dFnS 0 (fun ds R Er => ds.length + 1 = 2 ∧ f__law_draw ds R Er) (dCons (dC (.int 4)) dNil)))))) (sRet (dTup (dCons (dVar 4) (dCons (dCall fTupOf (dCons (dVar 6) dNil)) (dCons (dFnS 0 (fun ds R Er => ds.length + 1 = 5 ∧ f__law_ties ds R Er) (dCons (dVar 6) (dCons (dVar 10) (dCons (dFnS 0 (fun ds R Er => ds.length + 1 = 2 ∧ f__law_draw ds R Er) (dCons (dC (.int 8)) dNil)) (dCons (dVar 3) dNil))))) dNil))))))))))))
abbrev s__law_same : Stmt := top 21
theorem sc__law_same : FnScope ["_law_told", "_law_due"] ["_law_told", "_law_due"] (defScope s__law_same) := ⟨rfl, rfl, rfl, by decide +kernel, rfl, by decide +kernel, by decide +kernel⟩
def d__law_same : DS := (sRet (dOp fEq (dCall fRepr (dCons (dVar 0) dNil)) (dCall fRepr (dCons (dVar 1) dNil))))
abbrev s__law_odd : Stmt := top 22
theorem sc__law_odd : FnScope ["_law_source_here", "_law_some"] ["_law_source_here"] (defScope s__law_odd) := ⟨rfl, rfl, rfl, by decide +kernel, rfl, by decide +kernel, by decide +kernel⟩
def d__law_odd : DS := (sSeq (sSet 1 (dLst (dCons (dC .none) (dCons (dC (.str (Str.ofString "0"))) (dCons (dC (.str (Str.ofString ""))) (dCons (dTup dNil) (dCons (dLst dNil) (dCons (dC (.dict [])) (dCons (dC (.bool true)) (dCons (dC (.bool false)) (dCons (dTup (dCons (dC (.int 0)) dNil)) (dCons (dLst (dCons (dC (.int 0)) dNil)) (dCons (dOp fPow (dC (.int 10)) (dC (.int 40))) (dCons (dOp fSub (dC (.int 0)) (dC (.int 1))) dNil)))))))))))))) (sRet (dFnS 0 (fun ds R Er => ds.length + 1 = 2 ∧ f__law_pick ds R Er) (dCons (dOp fAdd (dVar 1) (dLst (dCons (dTup (dCons (dC (.str (Str.ofString "unions"))) dNil)) (dCons (dTup (dCons (dC .none) (dCons (dC (.int 1)) dNil))) dNil)))) dNil))))
abbrev s__law_odd_net : Stmt := top 23
theorem sc__law_odd_net : FnScope ["_law_source_here", "_law_some"] ["_law_source_here"] (defScope s__law_odd_net) := ⟨rfl, rfl, rfl, by decide +kernel, rfl, by decide +kernel, by decide +kernel⟩
def d__law_odd_net : DS := (sSeq (sSet 1 (dLst (dCons (dC .none) (dCons (dC (.int 5)) (dCons (dTup dNil) (dCons (dTup (dCons (dC (.int 0)) (dCons (dTup dNil) (dCons (dTup dNil) (dCons (dTup dNil) dNil))))) (dCons (dTup (dCons (dC (.int 0)) (dCons (dTup dNil) dNil))) (dCons (dLst (dCons (dC (.int 0)) (dCons (dTup dNil) (dCons (dTup dNil) dNil)))) (dCons (dTup (dCons (dC (.int 9)) (dCons (dTup dNil) (dCons (dTup dNil) dNil)))) (dCons (dTup (dCons (dC (.bool true)) (dCons (dTup dNil) (dCons (dTup dNil) dNil)))) (dCons (dTup (dCons (dC (.int 0)) (dCons (dLst dNil) (dCons (dTup dNil) dNil)))) (dCons (dTup (dCons (dC (.int 0)) (dCons (dTup dNil) (dCons (dLst dNil) dNil)))) dNil)))))))))))) (sSeq (sSet 1 (dOp fAdd (dVar 1) (dLst (dCons (dTup (dCons (dC (.int 1)) (dCons (dTup (dCons (dTup (dCons (dC (.int 0)) (dCons (dC (.int 2)) dNil))) dNil)) (dCons (dTup dNil) dNil)))) (dCons (dTup (dCons (dC (.int 1)) (dCons (dTup (dCons (dTup (dCons (dC (.int 1)) (dCons (dC (.int 0)) dNil))) dNil)) (dCons (dTup dNil) dNil)))) (dCons (dTup (dCons (dC (.int 1)) (dCons (dOp fMul (dTup (dCons (dTup (dCons (dC (.int 0)) (dCons (dC (.int 1)) dNil))) dNil)) (dC (.int 8))) (dCons (dTup dNil) dNil)))) dNil)))))) (sSeq (sSet 1 (dOp fAdd (dVar 1) (dLst (dCons (dTup (dCons (dC (.int 0)) (dCons (dTup (dCons (dTup (dCons (dC (.int 0)) (dCons (dC (.int 0)) dNil))) (dCons (dTup (dCons (dC (.int 0)) (dCons (dC (.int 0)) dNil))) dNil))) (dCons (dTup (dCons (dTup (dCons (dC (.int 1)) (dCons (dC (.int 0)) (dCons (dC (.int 0)) (dCons (dC (.int 0)) dNil))))) dNil)) dNil)))) (dCons (dTup (dCons (dC (.int 0)) (dCons (dTup (dCons (dTup (dCons (dC (.int 0)) (dCons (dC (.int 0)) dNil))) dNil)) (dCons (dTup (dCons (dTup (dCons (dC (.int 0)) (dCons (dC (.int 0)) (dCons (dC (.int 0)) (dCons (dC (.int 0)) dNil))))) dNil)) dNil)))) dNil))))) (sSeq (sSet 1 (dOp fAdd (dVar 1) (dLst (dCons (dTup (dCons (dC (.int 1)) (dCons (dTup (dCons (dTup (dCons (dC (.int 0)) (dCons (dC (.int 0)) dNil))) (dCons (dTup (dCons (dC (.int 0)) (dCons (dC (.int 1)) dNil))) dNil))) (dCons (dTup (dCons (dTup (dCons (dC (.int 0)) (dCons (dC (.int 1)) (dCons (dC (.int 0)) (dCons (dC (.int 1)) dNil))))) dNil)) dNil)))) (dCons (dC (.str (Str.ofString "net"))) (dCons (dC (.dict [(.int 0, .tuple [])])) (dCons (dTup (dCons (dOp fSub (dC (.int 0)) (dC (.int 1))) (dCons (dTup dNil) (dCons (dTup dNil) dNil)))) (dCons (dTup (dCons (dC (.bool false)) (dCons (dTup dNil) (dCons (dTup dNil) dNil)))) dNil)))))))) (sRet (dFnS 0 (fun ds R Er => ds.length + 1 = 2 ∧ f__law_pick ds R Er) (dCons (dVar 1) dNil)))))))
abbrev s__law_is_number : Stmt := top 24
theorem sc__law_is_number : FnScope ["_law_value", "_law_low", "_law_high"] ["_law_value", "_law_low", "_law_high"] (defScope s__law_is_number) := ⟨rfl, rfl, rfl, by decide +kernel, rfl, by decide +kernel, by decide +kernel⟩
def d__law_is_number : DS := (sRet (dAnd (dIsi "int" (dVar 0)) (dAnd (dNot (dIsi "bool" (dVar 0))) (dChain fLe fLe (dVar 1) (dVar 0) (dVar 2)))))
abbrev s__law_is_life : Stmt := top 25
theorem sc__law_is_life : FnScope ["_law_value", "_law_low", "_law_high"] ["_law_value", "_law_low", "_law_high"] (defScope s__law_is_life) := ⟨rfl, rfl, rfl, by decide +kernel, rfl, by decide +kernel, by decide +kernel⟩
def d__law_is_life : DS := (sSeq (sIf (dTOr (dTNot (dTru (dIsi "tuple" (dVar 0)))) (dTOp fNe (dCall fLen (dCons (dVar 0) dNil)) (dC (.int 2)))) (sRet (dC (.bool false))) sNil) (sRet (dAnd (dFn (fun ds R Er => ds.length = 3 ∧ f__law_is_number ds R Er) (dCons (dOp fIx (dVar 0) (dC (.int 0))) (dCons (dVar 1) (dCons (dVar 2) dNil)))) (dFn (fun ds R Er => ds.length = 3 ∧ f__law_is_number ds R Er) (dCons (dOp fIx (dVar 0) (dC (.int 1))) (dCons (dOp fIx (dVar 0) (dC (.int 0))) (dCons (dVar 2) dNil)))))))
abbrev s__law_is_tie : Stmt := top 26
theorem sc__law_is_tie : FnScope ["_law_value", "_law_points", "_law_one", "_law_other"] ["_law_value", "_law_points"] (defScope s__law_is_tie) := ⟨rfl, rfl, rfl, by decide +kernel, rfl, by decide +kernel, by decide +kernel⟩
def d__law_is_tie : DS := (sSeq (sIf (dTOr (dTNot (dTru (dIsi "tuple" (dVar 0)))) (dTOr (dTOp fNe (dCall fLen (dCons (dVar 0) dNil)) (dC (.int 4))) (dTNot (dTru (dFn (fun ds R Er => ds.length = 3 ∧ f__law_is_number ds R Er) (dCons (dOp fIx (dVar 0) (dC (.int 1))) (dCons (dC (.int 1)) (dCons (dOp fSub (dCall fLen (dCons (dVar 1) dNil)) (dC (.int 1))) dNil)))))))) (sRet (dC (.bool false))) sNil) (sSeq (sIf (dTNot (dTru (dFn (fun ds R Er => ds.length = 3 ∧ f__law_is_number ds R Er) (dCons (dOp fIx (dVar 0) (dC (.int 0))) (dCons (dC (.int 0)) (dCons (dOp fSub (dOp fIx (dVar 0) (dC (.int 1))) (dC (.int 1))) dNil)))))) (sRet (dC (.bool false))) sNil) (sSeq (sPar 2 3 (dCons (dOp fIx (dVar 1) (dOp fIx (dVar 0) (dC (.int 0)))) (dCons (dOp fIx (dVar 1) (dOp fIx (dVar 0) (dC (.int 1)))) dNil))) (sRet (dFn (fun ds R Er => ds.length = 3 ∧ f__law_is_life ds R Er) (dCons (dSl (dVar 0) (dPart (dC (.int 2))) dNoPart) (dCons (dCall fMax2 (dCons (dOp fIx (dVar 2) (dC (.int 0))) (dCons (dOp fIx (dVar 3) (dC (.int 0))) dNil))) (dCons (dCall fMin2 (dCons (dOp fIx (dVar 2) (dC (.int 1))) (dCons (dOp fIx (dVar 3) (dC (.int 1))) dNil))) dNil))))))))
abbrev s__law_is_net : Stmt := top 27
theorem sc__law_is_net : FnScope ["_law_value", "_law_life_here", "_law_tie"] ["_law_value"] (defScope s__law_is_net) := ⟨rfl, rfl, rfl, by decide +kernel, rfl, by decide +kernel, by decide +kernel⟩
def d__law_is_net : DS := (sSeq (sIf (dTOr (dTNot (dTru (dIsi "tuple" (dVar 0)))) (dTOr (dTOp fNe (dCall fLen (dCons (dVar 0) dNil)) (dC (.int 3))) (dTNot (dTru (dFn (fun ds R Er => ds.length = 3 ∧ f__law_is_number ds R Er) (dCons (dOp fIx (dVar 0) (dC (.int 0))) (dCons (dC (.int 0)) (dCons (dC (.int 8)) dNil)))))))) (sRet (dC (.bool false))) sNil) (sSeq (sIf (dTOr (dTNot (dTru (dIsi "tuple" (dOp fIx (dVar 0) (dC (.int 1)))))) (dTOr (dTOp fGt (dCall fLen (dCons (dOp fIx (dVar 0) (dC (.int 1))) dNil)) (dC (.int 7))) (dTOr (dTNot (dTru (dIsi "tuple" (dOp fIx (dVar 0) (dC (.int 2)))))) (dTOp fGt (dCall fLen (dCons (dOp fIx (dVar 0) (dC (.int 2))) dNil)) (dC (.int 9)))))) (sRet (dC (.bool false))) sNil) (sSeq (sIf (dTOp fNe (dLc (dSeq (dOp fIx (dVar 0) (dC (.int 1)))) (gN 1) (dTNot (dTru (dFn (fun ds R Er => ds.length = 3 ∧ f__law_is_life ds R Er) (dCons (dVar 1) (dCons (dC (.int 0)) (dCons (dOp fIx (dVar 0) (dC (.int 0))) dNil)))))) (dC (.int 1)) [1]) (dLst dNil)) (sRet (dC (.bool false))) sNil) (sRet (dOp fEq (dLc (dSeq (dOp fIx (dVar 0) (dC (.int 2)))) (gN 2) (dTNot (dTru (dFn (fun ds R Er => ds.length = 2 ∧ f__law_is_tie ds R Er) (dCons (dVar 2) (dCons (dOp fIx (dVar 0) (dC (.int 1))) dNil))))) (dC (.int 1)) [2]) (dLst dNil))))))
abbrev s__law_put : Stmt := top 28
theorem sc__law_put : FnScope ["_law_row", "_law_at", "_law_thing"] ["_law_row", "_law_at", "_law_thing"] (defScope s__law_put) := ⟨rfl, rfl, rfl, by decide +kernel, rfl, by decide +kernel, by decide +kernel⟩
def d__law_put : DS := (sRet (dOp fAdd (dOp fAdd (dSl (dVar 0) dNoPart (dPart (dVar 1))) (dTup (dCons (dVar 2) dNil))) (dSl (dVar 0) (dPart (dOp fAdd (dVar 1) (dC (.int 1)))) dNoPart)))
abbrev s__law_bent_point : Stmt := top 29
theorem sc__law_bent_point : FnScope ["_law_source_here", "_law_net_here", "_law_last", "_law_points", "_law_ties_here", "_law_at", "_law_some"] ["_law_source_here", "_law_net_here"] (defScope s__law_bent_point) := ⟨rfl, rfl, rfl, by decide +kernel, rfl, by decide +kernel, by decide +kernel⟩
def d__law_bent_point : DS := (sSeq (sAsg (dVar 1) (gT 3 (gCons' (gN 2) (gCons' (gN 3) (gCons' (gN 4) gNil'))))) (sSeq (sSet 5 (dFnS 0 (fun ds R Er => ds.length + 1 = 2 ∧ f__law_draw ds R Er) (dCons (dOp fAdd (dCall fLen (dCons (dVar 3) dNil)) (dC (.int 1))) dNil))) (sSeq (sSet 6 (dLst (dCons (dC .none) (dCons (dTup (dCons (dC (.int 0)) dNil)) (dCons (dTup (dCons (dC (.int 1)) (dCons (dC (.int 0)) dNil))) (dCons (dLst (dCons (dC (.int 0)) (dCons (dC (.int 0)) dNil))) (dCons (dTup (dCons (dC (.int 0)) (dCons (dOp fAdd (dVar 2) (dC (.int 1))) dNil))) (dCons (dTup (dCons (dOp fSub (dC (.int 0)) (dC (.int 1))) (dCons (dC (.int 0)) dNil))) (dCons (dTup (dCons (dC (.int 0)) (dCons (dC (.int 0)) (dCons (dC (.int 0)) dNil)))) (dCons (dC (.str (Str.ofString "ab"))) (dCons (dTup (dCons (dC (.int 0)) (dCons (dC .none) dNil))) (dCons (dTup (dCons (dC (.bool false)) (dCons (dC (.int 0)) dNil))) (dCons (dTup (dCons (dC (.int 0)) (dCons (dC (.bool true)) dNil))) dNil))))))))))))) (sRet (dTup (dCons (dVar 2) (dCons (dFn (fun ds R Er => ds.length = 3 ∧ f__law_put ds R Er) (dCons (dVar 3) (dCons (dVar 5) (dCons (dFnS 0 (fun ds R Er => ds.length + 1 = 2 ∧ f__law_pick ds R Er) (dCons (dOp fAdd (dVar 6) (dLst (dCons (dTup (dCons (dVar 2) (dCons (dVar 2) dNil))) (dCons (dTup (dCons (dC (.int 0)) (dCons (dVar 2) dNil))) (dCons (dTup (dCons (dC (.int 0)) (dCons (dC (.int 0)) dNil))) dNil))))) dNil)) dNil)))) (dCons (dVar 4) dNil))))))))
abbrev s__law_bent_tie : Stmt := top 30
theorem sc__law_bent_tie : FnScope ["_law_source_here", "_law_net_here", "_law_last", "_law_points", "_law_ties_here", "_law_at", "_law_many", "_law_some", "_law_one", "_law_other", "_law_first", "_law_end"] ["_law_source_here", "_law_net_here"] (defScope s__law_bent_tie) := ⟨rfl, rfl, rfl, by decide +kernel, rfl, by decide +kernel, by decide +kernel⟩
def d__law_bent_tie : DS := (sSeq (sAsg (dVar 1) (gT 3 (gCons' (gN 2) (gCons' (gN 3) (gCons' (gN 4) gNil'))))) (sSeq (sPar 5 6 (dCons (dFnS 0 (fun ds R Er => ds.length + 1 = 2 ∧ f__law_draw ds R Er) (dCons (dOp fAdd (dCall fLen (dCons (dVar 4) dNil)) (dC (.int 1))) dNil)) (dCons (dCall fLen (dCons (dVar 3) dNil)) dNil))) (sSeq (sSet 7 (dLst (dCons (dC .none) (dCons (dTup (dCons (dC (.int 0)) (dCons (dC (.int 1)) dNil))) (dCons (dTup (dCons (dC (.int 0)) (dCons (dC (.int 1)) (dCons (dC (.int 0)) dNil)))) (dCons (dLst (dCons (dC (.int 0)) (dCons (dC (.int 1)) (dCons (dC (.int 0)) (dCons (dC (.int 0)) dNil))))) (dCons (dTup (dCons (dC (.int 1)) (dCons (dC (.int 0)) (dCons (dC (.int 0)) (dCons (dC (.int 0)) dNil))))) (dCons (dTup (dCons (dC (.int 0)) (dCons (dC (.int 0)) (dCons (dC (.int 0)) (dCons (dC (.int 0)) dNil))))) (dCons (dTup (dCons (dC (.int 0)) (dCons (dVar 6) (dCons (dC (.int 0)) (dCons (dC (.int 0)) dNil))))) (dCons (dTup (dCons (dOp fSub (dC (.int 0)) (dC (.int 1))) (dCons (dC (.int 0)) (dCons (dC (.int 0)) (dCons (dC (.int 0)) dNil))))) (dCons (dC (.int 5)) dNil))))))))))) (sSeq (sSet 7 (dOp fAdd (dVar 7) (dLst (dCons (dTup (dCons (dC (.int 0)) (dCons (dC (.int 1)) (dCons (dC (.int 0)) (dCons (dOp fAdd (dVar 2) (dC (.int 1))) dNil))))) (dCons (dTup (dCons (dC (.int 0)) (dCons (dC (.int 1)) (dCons (dVar 2) (dCons (dC (.int 0)) dNil))))) (dCons (dTup (dCons (dC (.bool false)) (dCons (dC (.bool true)) (dCons (dC (.int 0)) (dCons (dC (.int 0)) dNil))))) (dCons (dTup (dCons (dC (.int 0)) (dCons (dC (.int 1)) (dCons (dC (.int 0)) (dCons (dC (.int 0)) dNil))))) (dCons (dTup (dCons (dC (.int 0)) (dCons (dC (.int 1)) (dCons (dVar 2) (dCons (dVar 2) dNil))))) (dCons (dC (.str (Str.ofString "abcd"))) dNil))))))))) (sSeq (sIf (dTOp fNe (dVar 4) (dTup dNil)) (sSeq (sAsg (dFnS 0 (fun ds R Er => ds.length + 1 = 2 ∧ f__law_pick ds R Er) (dCons (dCall fListOf (dCons (dVar 4) dNil)) dNil)) (gT 4 (gCons' (gN 8) (gCons' (gN 9) (gCons' (gN 10) (gCons' (gN 11) gNil')))))) (sSeq (sSet 7 (dOp fAdd (dVar 7) (dLst (dCons (dTup (dCons (dVar 8) (dCons (dVar 9) (dCons (dOp fSub (dVar 10) (dC (.int 1))) (dCons (dVar 11) dNil))))) (dCons (dTup (dCons (dVar 8) (dCons (dVar 9) (dCons (dVar 10) (dCons (dOp fAdd (dVar 11) (dC (.int 1))) dNil))))) (dCons (dTup (dCons (dVar 9) (dCons (dVar 8) (dCons (dVar 10) (dCons (dVar 11) dNil))))) dNil)))))) (sSeq (sSet 7 (dOp fAdd (dVar 7) (dLst (dCons (dTup (dCons (dVar 8) (dCons (dVar 9) (dCons (dVar 11) (dCons (dVar 10) dNil))))) (dCons (dTup (dCons (dVar 8) (dCons (dVar 9) (dCons (dVar 10) (dCons (dVar 11) dNil))))) (dCons (dTup (dCons (dVar 8) (dCons (dVar 9) (dCons (dC .none) (dCons (dVar 11) dNil))))) dNil)))))) (sSet 7 (dOp fAdd (dVar 7) (dLst (dCons (dTup (dCons (dVar 8) (dCons (dVar 9) (dCons (dVar 10) (dCons (dVar 11) (dCons (dC (.int 0)) dNil)))))) (dCons (dTup (dCons (dVar 8) (dCons (dVar 9) (dCons (dC (.bool true)) (dCons (dVar 11) dNil))))) (dCons (dTup (dCons (dVar 8) (dCons (dVar 9) (dCons (dC (.bool false)) (dCons (dVar 11) dNil))))) dNil))))))))) sNil) (sRet (dTup (dCons (dVar 2) (dCons (dVar 3) (dCons (dFn (fun ds R Er => ds.length = 3 ∧ f__law_put ds R Er) (dCons (dVar 4) (dCons (dVar 5) (dCons (dFnS 0 (fun ds R Er => ds.length + 1 = 2 ∧ f__law_pick ds R Er) (dCons (dVar 7) dNil)) dNil)))) dNil))))))))))
abbrev s__law_bent : Stmt := top 31
theorem sc__law_bent : FnScope ["_law_source_here", "_law_net_here", "_law_last", "_law_points", "_law_ties_here", "_law_kind", "_law_some"] ["_law_source_here", "_law_net_here"] (defScope s__law_bent) := ⟨rfl, rfl, rfl, by decide +kernel, rfl, by decide +kernel, by decide +kernel⟩
def d__law_bent : DS := (sSeq (sAsg (dVar 1) (gT 3 (gCons' (gN 2) (gCons' (gN 3) (gCons' (gN 4) gNil'))))) (sSeq (sSet 5 (dFnS 0 (fun ds R Er => ds.length + 1 = 2 ∧ f__law_draw ds R Er) (dCons (dC (.int 9)) dNil))) (sSeq (sIf (dTOp fLt (dVar 5) (dC (.int 2))) (sRet (dFnS 0 (fun ds R Er => ds.length + 1 = 2 ∧ f__law_bent_point ds R Er) (dCons (dVar 1) dNil))) sNil) (sSeq (sIf (dTOp fLt (dVar 5) (dC (.int 5))) (sRet (dFnS 0 (fun ds R Er => ds.length + 1 = 2 ∧ f__law_bent_tie ds R Er) (dCons (dVar 1) dNil))) sNil) (sSeq (sIf (dTOp fEq (dVar 5) (dC (.int 5))) (sRet (dTup (dCons (dFnS 0 (fun ds R Er => ds.length + 1 = 2 ∧ f__law_pick ds R Er) (dCons (dLst (dCons (dOp fSub (dVar 2) (dC (.int 1))) (dCons (dOp fAdd (dVar 2) (dC (.int 1))) (dCons (dC (.int 8)) (dCons (dC (.int 9)) (dCons (dC .none) (dCons (dC (.bool true)) (dCons (dC (.str (Str.ofString "1"))) (dCons (dOp fPow (dC (.int 10)) (dC (.int 30))) dNil))))))))) dNil)) (dCons (dVar 3) (dCons (dVar 4) dNil))))) sNil) (sSeq (sIf (dTOp fEq (dVar 5) (dC (.int 6))) (sSeq (sSet 6 (dLst (dCons (dCall fListOf (dCons (dVar 1) dNil)) (dCons (dSl (dVar 1) dNoPart (dPart (dC (.int 2)))) (dCons (dOp fAdd (dVar 1) (dTup (dCons (dC (.int 0)) dNil))) (dCons (dTup (dCons (dVar 2) (dCons (dCall fListOf (dCons (dVar 3) dNil)) (dCons (dVar 4) dNil)))) (dCons (dTup (dCons (dVar 2) (dCons (dVar 3) (dCons (dCall fListOf (dCons (dVar 4) dNil)) dNil)))) dNil))))))) (sRet (dFnS 0 (fun ds R Er => ds.length + 1 = 2 ∧ f__law_pick ds R Er) (dCons (dVar 6) dNil)))) sNil) (sSeq (sIf (dTOp fEq (dVar 5) (dC (.int 7))) (sRet (dTup (dCons (dVar 2) (dCons (dOp fMul (dVar 3) (dC (.int 3))) (dCons (dVar 4) dNil))))) sNil) (sRet (dTup (dCons (dVar 2) (dCons (dVar 3) (dCons (dOp fMul (dVar 4) (dOp fAdd (dC (.int 1)) (dFnS 0 (fun ds R Er => ds.length + 1 = 2 ∧ f__law_draw ds R Er) (dCons (dC (.int 4)) dNil)))) dNil))))))))))))
abbrev s_law : Stmt := top 32
theorem sc_law : FnScope ["_law_script", "_law_start", "_law_source_here", "_law_turn", "_law_net_here", "_law_twice", "_law_thing", "_law_seen"] ["_law_script"] (defScope s_law) := ⟨rfl, rfl, rfl, by decide +kernel, rfl, by decide +kernel, by decide +kernel⟩
def d_law : DS := (sSeq (sFor (dRange1 (dCall fMax2 (dCons (dC (.int 1)) (dCons (dCall fMin2 (dCons (dC (.int 3)) (dCons (dLenO 0) dNil))) dNil)))) (gN 1) (sNew 2 0 ok__law_source (dVar 1) (sSeq (sFor (dRange1 (dC (.int 6))) (gN 3) (sSeq (sSet 4 (dFnS 2 (fun ds R Er => ds.length + 1 = 4 ∧ f__law_net ds R Er) (dCons (dC (.int 5)) (dCons (dC (.int 5)) (dCons (dC (.bool false)) dNil))))) (sSeq (sSet 5 (dFnS 2 (fun ds R Er => ds.length + 1 = 2 ∧ f__law_bent_tie ds R Er) (dCons (dFnS 2 (fun ds R Er => ds.length + 1 = 2 ∧ f__law_bent_point ds R Er) (dCons (dVar 4) dNil)) dNil))) (sFor (dSeq (dLst (dCons (dVar 4) (dCons (dFnS 2 (fun ds R Er => ds.length + 1 = 2 ∧ f__law_bent ds R Er) (dCons (dVar 4) dNil)) (dCons (dFnS 2 (fun ds R Er => ds.length + 1 = 2 ∧ f__law_bent ds R Er) (dCons (dVar 4) dNil)) (dCons (dVar 5) (dCons (dFnS 2 (fun ds R Er => ds.length + 1 = 1 ∧ f__law_odd ds R Er) dNil) dNil))))))) (gN 6) (sSeq (sSet 7 (dCall fRepr (dCons (dVar 6) dNil))) (sIf (dTOr (dTNot (dTru (dFn (fun ds R Er => ds.length = 2 ∧ f__law_same ds R Er) (dCons (dFn (fun ds R Er => ds.length = 1 ∧ f_is_net ds R Er) (dCons (dVar 6) dNil)) (dCons (dFn (fun ds R Er => ds.length = 1 ∧ f__law_is_net ds R Er) (dCons (dVar 6) dNil)) dNil))))) (dTOp fNe (dCall fRepr (dCons (dVar 6) dNil)) (dVar 7))) (sRet (dC (.bool false))) sNil)))))) (sIf (dTOr (dTOp fNotB (dFn (fun ds R Er => ds.length = 1 ∧ f_is_net ds R Er) (dCons (dFnS 2 (fun ds R Er => ds.length + 1 = 1 ∧ f__law_odd_net ds R Er) dNil) dNil)) (dC (.bool false))) (dTOp fNotB (dFn (fun ds R Er => ds.length = 1 ∧ f_is_net ds R Er) (dCons (dTup (dCons (dC (.int 0)) (dCons (dTup dNil) (dCons (dTup dNil) dNil)))) dNil)) (dC (.bool true)))) (sRet (dC (.bool false))) sNil)))) (sRet (dOp fIsB (dFn (fun ds R Er => ds.length = 1 ∧ f_is_net ds R Er) (dCons (dTup (dCons (dC (.int 8)) (dCons (dOp fMul (dTup (dCons (dTup (dCons (dC (.int 0)) (dCons (dC (.int 8)) dNil))) dNil)) (dC (.int 7))) (dCons (dOp fMul (dTup (dCons (dTup (dCons (dC (.int 0)) (dCons (dC (.int 6)) (dCons (dC (.int 8)) (dCons (dC (.int 8)) dNil))))) dNil)) (dC (.int 9))) dNil)))) dNil)) (dC (.bool true)))))
end DD

namespace DD
open PySem L2
theorem len1 {α : Type} {ds : List α} (h : ds.length = 1) : ∃ a, ds = [a] := by
  match ds, h with
  | [a], _ => exact ⟨a, rfl⟩
theorem h_is_whole : ∀ ds R Er, ds.length = 1 → f_is_whole ds R Er → d_is_whole { nx := fun _ => R .none, rt := R } (startD 1 ds) Er := by
  intro ds R Er hl h
  obtain ⟨v, rfl⟩ := len1 hl
  have h := h v rfl
  cases v <;> exact h
theorem h_is_from_to : ∀ ds R Er, ds.length = 3 → f_is_from_to ds R Er → d_is_from_to { nx := fun _ => R .none, rt := R } (startD 3 ds) Er := by
  intro ds R Er hl ⟨v, l, h, e, hr⟩
  subst e
  show d_is_from_to _ [some (.dat v), some (.dat (.int l)), some (.dat (.int h))] Er
  simp only [d_is_from_to, true_and, startD, startS, startN, dVar, dVarF, dC, dOp, dTru, truD, dTOp, dIsN, dNotN, dTIsN, dTNotN, dTAnd, dTOr, dTNot, dAnd, dOr, dNot, dIf, dChain, dTChain, dSl, dNoPart, dPart, dNil, dCons, dTup, dLst, dCall, dFn, dFnS, sNil, sSeq, sRet, sDrop, sIf, gN, gNil', gCons', gT, sAsg, sSet, sPar, sAug, sSetO, dSeq, dSrc0, dSrc1, sSrc0, sSrc1, dIsi, fAdd, fSub, fMul, fMod, fDiv, fLt, fLe, fGt, fGe, dI2, dB2, dI2c, fIsB, fNotB, isNonD, fLen, fMax2, fMin2, fInt, fListOf, fTupOf, List.getElem?_cons_zero, List.getElem?_cons_succ, List.set_cons_zero, List.set_cons_succ, List.length_cons, List.length_nil, Bool.not_true, Bool.not_false]
  intro v' e
  cases e
  cases v <;> simp only [isW, isFT] at hr ⊢ <;> try exact hr
  rename_i i
  by_cases h1 : l ≤ i
  · simp only [h1, decide_true, true_and, startD, startS, startN, dVar, dVarF, dC, dOp, dTru, truD, dTOp, dIsN, dNotN, dTIsN, dTNotN, dTAnd, dTOr, dTNot, dAnd, dOr, dNot, dIf, dChain, dTChain, dSl, dNoPart, dPart, dNil, dCons, dTup, dLst, dCall, dFn, dFnS, sNil, sSeq, sRet, sDrop, sIf, gN, gNil', gCons', gT, sAsg, sSet, sPar, sAug, sSetO, dSeq, dSrc0, dSrc1, sSrc0, sSrc1, dIsi, fAdd, fSub, fMul, fMod, fDiv, fLt, fLe, fGt, fGe, dI2, dB2, dI2c, fIsB, fNotB, isNonD, fLen, fMax2, fMin2, fInt, fListOf, fTupOf, List.getElem?_cons_zero, List.getElem?_cons_succ, List.set_cons_zero, List.set_cons_succ, List.length_cons, List.length_nil, Bool.not_true, Bool.not_false]
    simpa only [h1, decide_true, Bool.true_and] using hr
  · simp only [h1, decide_false, true_and, startD, startS, startN, dVar, dVarF, dC, dOp, dTru, truD, dTOp, dIsN, dNotN, dTIsN, dTNotN, dTAnd, dTOr, dTNot, dAnd, dOr, dNot, dIf, dChain, dTChain, dSl, dNoPart, dPart, dNil, dCons, dTup, dLst, dCall, dFn, dFnS, sNil, sSeq, sRet, sDrop, sIf, gN, gNil', gCons', gT, sAsg, sSet, sPar, sAug, sSetO, dSeq, dSrc0, dSrc1, sSrc0, sSrc1, dIsi, fAdd, fSub, fMul, fMod, fDiv, fLt, fLe, fGt, fGe, dI2, dB2, dI2c, fIsB, fNotB, isNonD, fLen, fMax2, fMin2, fInt, fListOf, fTupOf, List.getElem?_cons_zero, List.getElem?_cons_succ, List.set_cons_zero, List.set_cons_succ, List.length_cons, List.length_nil, Bool.not_true, Bool.not_false]
    simpa only [h1, decide_false, Bool.false_and] using hr
theorem h_is_tuple_long : ∀ ds R Er, ds.length = 2 → f_is_tuple_long ds R Er → d_is_tuple_long { nx := fun _ => R .none, rt := R } (startD 2 ds) Er := by
  intro ds R Er hl ⟨v, n, e, hr⟩
  subst e
  cases v <;> exact hr
theorem h_is_stretch_of : ∀ ds R Er, ds.length = 2 → f_is_stretch_of ds R Er → d_is_stretch_of { nx := fun _ => R .none, rt := R } (startD 4 ds) Er := by
  intro ds R Er hl ⟨p, v, e, hr⟩
  subst e
  show d_is_stretch_of _ [some (.dat (.int p)), some (.dat v), none, none] Er
  simp only [d_is_stretch_of, true_and, startD, startS, startN, dVar, dVarF, dC, dOp, dTru, truD, dTOp, dIsN, dNotN, dTIsN, dTNotN, dTAnd, dTOr, dTNot, dAnd, dOr, dNot, dIf, dChain, dTChain, dSl, dNoPart, dPart, dNil, dCons, dTup, dLst, dCall, dFn, dFnS, sNil, sSeq, sRet, sDrop, sIf, gN, gNil', gCons', gT, sAsg, sSet, sPar, sAug, sSetO, dSeq, dSrc0, dSrc1, sSrc0, sSrc1, dIsi, fAdd, fSub, fMul, fMod, fDiv, fLt, fLe, fGt, fGe, dI2, dB2, dI2c, fIsB, fNotB, isNonD, fLen, fMax2, fMin2, fInt, fListOf, fTupOf, List.getElem?_cons_zero, List.getElem?_cons_succ, List.set_cons_zero, List.set_cons_succ, List.length_cons, List.length_nil, Bool.not_true, Bool.not_false]
  refine ⟨v, 2, rfl, ?_⟩
  cases v with
  | tuple xs =>
    match xs with
    | [a, b] =>
      refine ⟨rfl, b, 0, p - 1, rfl, ?_⟩
      cases b with
      | int j =>
        simp only [isStr] at hr
        by_cases hj : isFT (.int j) 0 (p - 1) = true
        · rw [hj]
          refine ⟨a, 0, j, rfl, ?_⟩
          simpa only [hj, Bool.true_and] using hr
        · rw [Bool.not_eq_true] at hj
          rw [hj]
          simpa only [hj, Bool.false_and] using hr
      | _ => exact hr
    | [] => exact hr
    | [_] => exact hr
    | a :: b :: c :: r =>
      have e : isTL (.tuple (a :: b :: c :: r)) 2 = false := by simp only [isTL, List.length_cons]; exact decide_eq_false (by omega)
      rw [e]
      exact hr
  | _ => exact hr
end DD

namespace DD
open PySem L2
theorem lc_map {i : Nat} {te : DE} {R : List PyData → Env' → Prop} {ρ : Env'} (f : PyData → PyData) : ∀ (ds acc : List PyData),
    (∀ d ∈ ds, ∀ K : PyData → Env' → Prop, K (f d) (ρ.set i (some (.dat d))) → te (ρ.set i (some (.dat d))) K noEr) → acc.length + ds.length ≤ big → R (acc ++ ds.map f) (ρ.set i none) →
    lcGo (gN i) dYes te [i] R ds acc (ρ.set i none)
  | [], acc, _, _, hR => by simpa only [lcGo, List.map_nil, List.append_nil] using hR
  | d :: r, acc, h, hl, hR => by
    simp only [lcGo, gN, dYes, List.set_set, wipeD]
    simp only [List.length_cons] at hl
    refine h d List.mem_cons_self _ ⟨by omega, ?_⟩
    rw [List.set_set]
    exact lc_map f r (acc ++ [f d]) (fun x hx => h x (List.mem_cons_of_mem _ hx)) (by simp only [List.length_append, List.length_cons, List.length_nil]; omega) (by simpa only [List.append_assoc, List.map_cons, List.cons_append, List.nil_append] using hR)
theorem boolsD_map (p : PyData → Bool) : ∀ xs : List PyData, boolsD (xs.map fun x => .bool (p x)) = some (xs.map p)
  | [] => rfl
  | x :: r => by simp only [List.map_cons, boolsD, boolsD_map p r, Option.map_some]
theorem fAll_map (p : PyData → Bool) (xs : List PyData) : fAll [.list (xs.map fun x => .bool (p x))] = some (.bool (xs.all p)) := by
  simp only [fAll, boolsD_map, Option.map_some, List.all_map, Function.comp_def, id]
theorem fAny_map (p : PyData → Bool) (xs : List PyData) : fAny [.list (xs.map fun x => .bool (p x))] = some (.bool (xs.any p)) := by
  simp only [fAny, boolsD_map, Option.map_some, List.any_map, Function.comp_def, id]
theorem isStr_life {p : Int} {x : PyData} (h : isStr p x = true) : x = lifeD (lifeOf x) ∧ 0 ≤ (lifeOf x).1 ∧ (lifeOf x).1 ≤ (lifeOf x).2 ∧ (lifeOf x).2 ≤ p - 1 := by
  cases x with
  | tuple xs =>
    match xs, h with
    | [a, b], h =>
      cases b with
      | int j =>
        cases a with
        | int i =>
          simp only [isStr, isFT, Bool.and_eq_true, decide_eq_true_eq] at h
          exact ⟨rfl, h.2.1, h.2.2, h.1.2⟩
        | _ => simp [isStr, isFT] at h
      | _ => cases h
  | _ => cases h
theorem lives_of {p : Int} : ∀ {xs : List PyData}, xs.all (isStr p) = true → xs = (xs.map lifeOf).map lifeD
  | [], _ => rfl
  | x :: r, h => by
    simp only [List.all_cons, Bool.and_eq_true] at h
    rw [List.map_cons, List.map_cons, ← (isStr_life h.1).1, ← lives_of h.2]
theorem arePts_of {l : Int} {p : PyData} (h : arePts l p = true) : p = .tuple ((ptsOf p).map lifeD) := by
  unfold arePts at h
  split at h
  · simp only [Bool.and_eq_true] at h
    exact congrArg PyData.tuple (lives_of h.2)
  · cases h
theorem h_are_points : ∀ ds R Er, ds.length = 2 → f_are_points ds R Er → d_are_points { nx := fun _ => R .none, rt := R } (startD 3 ds) Er := by
  intro ds R Er hl ⟨l, v, e, hr⟩
  subst e
  show d_are_points _ [some (.dat (.int l)), some (.dat v), none] Er
  cases v with
  | tuple xs =>
    have e : isiD "tuple" (.tuple xs) = true := rfl
    simp only [d_are_points, e, true_and, startD, startS, startN, dVar, dVarF, dC, dOp, dTru, truD, dTOp, dIsN, dNotN, dTIsN, dTNotN, dTAnd, dTOr, dTNot, dAnd, dOr, dNot, dIf, dChain, dTChain, dSl, dNoPart, dPart, dNil, dCons, dTup, dLst, dCall, dFn, dFnS, sNil, sSeq, sRet, sDrop, sIf, gN, gNil', gCons', gT, sAsg, sSet, sPar, sAug, sSetO, dSeq, dSrc0, dSrc1, sSrc0, sSrc1, dIsi, fAdd, fSub, fMul, fMod, fDiv, fLt, fLe, fGt, fGe, dI2, dB2, dI2c, fIsB, fNotB, isNonD, fLen, fMax2, fMin2, fInt, fListOf, fTupOf, List.getElem?_cons_zero, List.getElem?_cons_succ, List.set_cons_zero, List.set_cons_succ, List.length_cons, List.length_nil, Bool.not_true, Bool.not_false]
    by_cases h : (7 : Int) < xs.length
    · have : arePts l (.tuple xs) = false := by
        simp only [arePts, decide_eq_false (show ¬ xs.length ≤ 7 by omega), Bool.false_and]
      simp only [decide_eq_true h]
      rw [this] at hr
      exact hr
    · simp only [decide_eq_false h]
      refine lc_map (ρ := [some (.dat (.int l)), some (.dat (.tuple xs)), none]) (fun x => .bool (isStr (l + 1) x)) xs [] ?_ (by simp only [List.length_nil, big]; omega) ?_
      · intro d _ K hk
        simp only [true_and, startD, startS, startN, dVar, dVarF, dC, dOp, dTru, truD, dTOp, dIsN, dNotN, dTIsN, dTNotN, dTAnd, dTOr, dTNot, dAnd, dOr, dNot, dIf, dChain, dTChain, dSl, dNoPart, dPart, dNil, dCons, dTup, dLst, dCall, dFn, dFnS, sNil, sSeq, sRet, sDrop, sIf, gN, gNil', gCons', gT, sAsg, sSet, sPar, sAug, sSetO, dSeq, dSrc0, dSrc1, sSrc0, sSrc1, dIsi, fAdd, fSub, fMul, fMod, fDiv, fLt, fLe, fGt, fGe, dI2, dB2, dI2c, fIsB, fNotB, isNonD, fLen, fMax2, fMin2, fInt, fListOf, fTupOf, List.getElem?_cons_zero, List.getElem?_cons_succ, List.set_cons_zero, List.set_cons_succ, List.length_cons, List.length_nil, Bool.not_true, Bool.not_false]
        exact ⟨l + 1, d, rfl, hk⟩
      · simp only [List.nil_append, fAll_map]
        simpa only [arePts, decide_eq_true (show xs.length ≤ 7 by omega), Bool.true_and] using hr
  | _ => exact hr
theorem h_are_ties : ∀ ds R Er, ds.length = 2 → f_are_ties ds R Er → d_are_ties { nx := fun _ => R .none, rt := R } (startD 3 ds) Er := by
  intro ds R Er hl ⟨pts, v, e, hr⟩
  subst e
  show d_are_ties _ [some (.dat (.tuple (pts.map lifeD))), some (.dat v), none] Er
  cases v with
  | tuple xs =>
    have e : isiD "tuple" (.tuple xs) = true := rfl
    simp only [d_are_ties, e, true_and, startD, startS, startN, dVar, dVarF, dC, dOp, dTru, truD, dTOp, dIsN, dNotN, dTIsN, dTNotN, dTAnd, dTOr, dTNot, dAnd, dOr, dNot, dIf, dChain, dTChain, dSl, dNoPart, dPart, dNil, dCons, dTup, dLst, dCall, dFn, dFnS, sNil, sSeq, sRet, sDrop, sIf, gN, gNil', gCons', gT, sAsg, sSet, sPar, sAug, sSetO, dSeq, dSrc0, dSrc1, sSrc0, sSrc1, dIsi, fAdd, fSub, fMul, fMod, fDiv, fLt, fLe, fGt, fGe, dI2, dB2, dI2c, fIsB, fNotB, isNonD, fLen, fMax2, fMin2, fInt, fListOf, fTupOf, List.getElem?_cons_zero, List.getElem?_cons_succ, List.set_cons_zero, List.set_cons_succ, List.length_cons, List.length_nil, Bool.not_true, Bool.not_false]
    by_cases h : (9 : Int) < xs.length
    · have : areTies pts (.tuple xs) = false := by
        simp only [areTies, decide_eq_false (show ¬ xs.length ≤ 9 by omega), Bool.false_and]
      simp only [decide_eq_true h]
      rw [this] at hr
      exact hr
    · simp only [decide_eq_false h]
      refine lc_map (ρ := [some (.dat (.tuple (pts.map lifeD))), some (.dat (.tuple xs)), none]) (fun x => .bool (isTie pts x)) xs [] ?_ (by simp only [List.length_nil, big]; omega) ?_
      · intro d _ K hk
        simp only [true_and, startD, startS, startN, dVar, dVarF, dC, dOp, dTru, truD, dTOp, dIsN, dNotN, dTIsN, dTNotN, dTAnd, dTOr, dTNot, dAnd, dOr, dNot, dIf, dChain, dTChain, dSl, dNoPart, dPart, dNil, dCons, dTup, dLst, dCall, dFn, dFnS, sNil, sSeq, sRet, sDrop, sIf, gN, gNil', gCons', gT, sAsg, sSet, sPar, sAug, sSetO, dSeq, dSrc0, dSrc1, sSrc0, sSrc1, dIsi, fAdd, fSub, fMul, fMod, fDiv, fLt, fLe, fGt, fGe, dI2, dB2, dI2c, fIsB, fNotB, isNonD, fLen, fMax2, fMin2, fInt, fListOf, fTupOf, List.getElem?_cons_zero, List.getElem?_cons_succ, List.set_cons_zero, List.set_cons_succ, List.length_cons, List.length_nil, Bool.not_true, Bool.not_false]
        exact ⟨pts, d, rfl, hk⟩
      · simp only [List.nil_append, fAll_map]
        simpa only [areTies, decide_eq_true (show xs.length ≤ 9 by omega), Bool.true_and] using hr
  | _ => exact hr
theorem h_is_net : ∀ ds R Er, ds.length = 1 → f_is_net ds R Er → d_is_net { nx := fun _ => R .none, rt := R } (startD 4 ds) Er := by
  intro ds R Er hl ⟨v, e, hr⟩
  subst e
  show d_is_net _ [some (.dat v), none, none, none] Er
  simp only [d_is_net, true_and, startD, startS, startN, dVar, dVarF, dC, dOp, dTru, truD, dTOp, dIsN, dNotN, dTIsN, dTNotN, dTAnd, dTOr, dTNot, dAnd, dOr, dNot, dIf, dChain, dTChain, dSl, dNoPart, dPart, dNil, dCons, dTup, dLst, dCall, dFn, dFnS, sNil, sSeq, sRet, sDrop, sIf, gN, gNil', gCons', gT, sAsg, sSet, sPar, sAug, sSetO, dSeq, dSrc0, dSrc1, sSrc0, sSrc1, dIsi, fAdd, fSub, fMul, fMod, fDiv, fLt, fLe, fGt, fGe, dI2, dB2, dI2c, fIsB, fNotB, isNonD, fLen, fMax2, fMin2, fInt, fListOf, fTupOf, List.getElem?_cons_zero, List.getElem?_cons_succ, List.set_cons_zero, List.set_cons_succ, List.length_cons, List.length_nil, Bool.not_true, Bool.not_false]
  refine ⟨v, 3, rfl, ?_⟩
  cases v with
  | tuple xs =>
    match xs with
    | [l, p, t] =>
      refine ⟨rfl, l, 0, 8, rfl, ?_⟩
      cases l with
      | int i =>
        simp only [isNet] at hr
        by_cases h1 : isFT (.int i) 0 8 = true
        · rw [h1]
          simp only [h1, Bool.true_and] at hr
          refine ⟨i, p, rfl, ?_⟩
          by_cases h2 : arePts i p = true
          · rw [h2]
            refine ⟨ptsOf p, t, by rw [← arePts_of h2], ?_⟩
            simpa only [h2, Bool.true_and] using hr
          · rw [Bool.not_eq_true] at h2
            rw [h2]
            simpa only [h2, Bool.false_and] using hr
        · rw [Bool.not_eq_true] at h1
          rw [h1]
          simpa only [h1, Bool.false_and] using hr
      | _ => exact hr
    | [] => exact hr
    | [_] => exact hr
    | [_, _] => exact hr
    | a :: b :: c :: d :: r =>
      have e : isTL (.tuple (a :: b :: c :: d :: r)) 3 = false := by simp only [isTL, List.length_cons]; exact decide_eq_false (by omega)
      rw [e]
      exact hr
  | _ => exact hr
theorem maxI (i j : Int) : (if j > i then j else i) = max i j := by rw [Int.max_def]; split <;> split <;> omega
theorem minI (i j : Int) : (if j < i then j else i) = min i j := by rw [Int.min_def]; split <;> split <;> omega
theorem atI_map {α β : Type} {f : α → β} {xs : List α} {i : Int} {x : α} (h0 : 0 ≤ i) (h : xs[i.toNat]? = some x) : atI (xs.map f) i = some (f x) := by
  have e : i = ((i.toNat : Nat) : Int) := by omega
  rw [e]
  exact atI_nat (by rw [List.getElem?_map, h]; rfl)
theorem atI_at {α : Type} {xs : List α} {i : Int} {x : α} (h0 : 0 ≤ i) (h : xs[i.toNat]? = some x) : atI xs i = some x := by
  have e : i = ((i.toNat : Nat) : Int) := by omega
  rw [e]
  exact atI_nat h
theorem at_of {α : Type} {xs : List α} {i : Int} (h0 : 0 ≤ i) (h1 : i ≤ (xs.length : Int) - 1) : ∃ x, xs[i.toNat]? = some x := ⟨_, List.getElem?_eq_getElem (by omega)⟩
theorem h_is_tie : ∀ ds R Er, ds.length = 2 → f_is_tie ds R Er → d_is_tie { nx := fun _ => R .none, rt := R } (startD 8 ds) Er := by
  intro ds R Er hl ⟨pts, v, e, hr⟩
  subst e
  show d_is_tie _ [some (.dat (.tuple (pts.map lifeD))), some (.dat v), none, none, none, none, none, none] Er
  simp only [d_is_tie, true_and, startD, startS, startN, dVar, dVarF, dC, dOp, dTru, truD, dTOp, dIsN, dNotN, dTIsN, dTNotN, dTAnd, dTOr, dTNot, dAnd, dOr, dNot, dIf, dChain, dTChain, dSl, dNoPart, dPart, dNil, dCons, dTup, dLst, dCall, dFn, dFnS, sNil, sSeq, sRet, sDrop, sIf, gN, gNil', gCons', gT, sAsg, sSet, sPar, sAug, sSetO, dSeq, dSrc0, dSrc1, sSrc0, sSrc1, dIsi, fAdd, fSub, fMul, fMod, fDiv, fLt, fLe, fGt, fGe, dI2, dB2, dI2c, fIsB, fNotB, isNonD, fLen, fMax2, fMin2, fInt, fListOf, fTupOf, List.getElem?_cons_zero, List.getElem?_cons_succ, List.set_cons_zero, List.set_cons_succ, List.length_cons, List.length_nil, Bool.not_true, Bool.not_false]
  refine ⟨v, 4, rfl, ?_⟩
  cases v with
  | tuple xs =>
    match xs with
    | [one, other, first, e] =>
      refine ⟨rfl, ?_⟩
      simp only [true_and, startD, startS, startN, dVar, dVarF, dC, dOp, dTru, truD, dTOp, dIsN, dNotN, dTIsN, dTNotN, dTAnd, dTOr, dTNot, dAnd, dOr, dNot, dIf, dChain, dTChain, dSl, dNoPart, dPart, dNil, dCons, dTup, dLst, dCall, dFn, dFnS, sNil, sSeq, sRet, sDrop, sIf, gN, gNil', gCons', gT, sAsg, sSet, sPar, sAug, sSetO, dSeq, dSrc0, dSrc1, sSrc0, sSrc1, dIsi, fAdd, fSub, fMul, fMod, fDiv, fLt, fLe, fGt, fGe, dI2, dB2, dI2c, fIsB, fNotB, isNonD, fLen, fMax2, fMin2, fInt, fListOf, fTupOf, List.getElem?_cons_zero, List.getElem?_cons_succ, List.set_cons_zero, List.set_cons_succ, List.length_cons, List.length_nil, Bool.not_true, Bool.not_false]
      refine ⟨other, 0, (pts.length : Int) - 1, by rw [List.length_map], ?_⟩
      cases other with
      | int j =>
        by_cases h1 : isFT (.int j) 0 ((pts.length : Int) - 1) = true
        · simp only [h1, true_and, startD, startS, startN, dVar, dVarF, dC, dOp, dTru, truD, dTOp, dIsN, dNotN, dTIsN, dTNotN, dTAnd, dTOr, dTNot, dAnd, dOr, dNot, dIf, dChain, dTChain, dSl, dNoPart, dPart, dNil, dCons, dTup, dLst, dCall, dFn, dFnS, sNil, sSeq, sRet, sDrop, sIf, gN, gNil', gCons', gT, sAsg, sSet, sPar, sAug, sSetO, dSeq, dSrc0, dSrc1, sSrc0, sSrc1, dIsi, fAdd, fSub, fMul, fMod, fDiv, fLt, fLe, fGt, fGe, dI2, dB2, dI2c, fIsB, fNotB, isNonD, fLen, fMax2, fMin2, fInt, fListOf, fTupOf, List.getElem?_cons_zero, List.getElem?_cons_succ, List.set_cons_zero, List.set_cons_succ, List.length_cons, List.length_nil, Bool.not_true, Bool.not_false]
          refine ⟨one, 0, j - 1, rfl, ?_⟩
          cases one with
          | int i =>
            by_cases h2 : isFT (.int i) 0 (j - 1) = true
            · simp only [h2, true_and, startD, startS, startN, dVar, dVarF, dC, dOp, dTru, truD, dTOp, dIsN, dNotN, dTIsN, dTNotN, dTAnd, dTOr, dTNot, dAnd, dOr, dNot, dIf, dChain, dTChain, dSl, dNoPart, dPart, dNil, dCons, dTup, dLst, dCall, dFn, dFnS, sNil, sSeq, sRet, sDrop, sIf, gN, gNil', gCons', gT, sAsg, sSet, sPar, sAug, sSetO, dSeq, dSrc0, dSrc1, sSrc0, sSrc1, dIsi, fAdd, fSub, fMul, fMod, fDiv, fLt, fLe, fGt, fGe, dI2, dB2, dI2c, fIsB, fNotB, isNonD, fLen, fMax2, fMin2, fInt, fListOf, fTupOf, List.getElem?_cons_zero, List.getElem?_cons_succ, List.set_cons_zero, List.set_cons_succ, List.length_cons, List.length_nil, Bool.not_true, Bool.not_false]
              have b1 := h1
              have b2 := h2
              simp only [isFT, Bool.and_eq_true, decide_eq_true_eq] at b1 b2
              obtain ⟨x, hx⟩ := at_of (xs := pts) (i := i) b2.1 (by omega)
              obtain ⟨y, hy⟩ := at_of (xs := pts) (i := j) b1.1 b1.2
              simp only [isTie, h1, h2, hx, hy, Bool.true_and] at hr
              have a0 : ∀ a b : PyData, atI [a, b] 0 = some a := fun _ _ => rfl
              have a1 : ∀ a b : PyData, atI [a, b] 1 = some b := fun _ _ => rfl
              simp only [fIx, atI_map b2.1 hx, atI_map b1.1 hy, lifeD, a0, a1, maxI, minI, true_and, startD, startS, startN, dVar, dVarF, dC, dOp, dTru, truD, dTOp, dIsN, dNotN, dTIsN, dTNotN, dTAnd, dTOr, dTNot, dAnd, dOr, dNot, dIf, dChain, dTChain, dSl, dNoPart, dPart, dNil, dCons, dTup, dLst, dCall, dFn, dFnS, sNil, sSeq, sRet, sDrop, sIf, gN, gNil', gCons', gT, sAsg, sSet, sPar, sAug, sSetO, dSeq, dSrc0, dSrc1, sSrc0, sSrc1, dIsi, fAdd, fSub, fMul, fMod, fDiv, fLt, fLe, fGt, fGe, dI2, dB2, dI2c, fIsB, fNotB, isNonD, fLen, fMax2, fMin2, fInt, fListOf, fTupOf, List.getElem?_cons_zero, List.getElem?_cons_succ, List.set_cons_zero, List.set_cons_succ, List.length_cons, List.length_nil, Bool.not_true, Bool.not_false]
              refine ⟨first, max x.1 y.1, min x.2 y.2, rfl, ?_⟩
              cases first with
              | int f =>
                by_cases h3 : isFT (.int f) (max x.1 y.1) (min x.2 y.2) = true
                · simp only [h3, true_and, startD, startS, startN, dVar, dVarF, dC, dOp, dTru, truD, dTOp, dIsN, dNotN, dTIsN, dTNotN, dTAnd, dTOr, dTNot, dAnd, dOr, dNot, dIf, dChain, dTChain, dSl, dNoPart, dPart, dNil, dCons, dTup, dLst, dCall, dFn, dFnS, sNil, sSeq, sRet, sDrop, sIf, gN, gNil', gCons', gT, sAsg, sSet, sPar, sAug, sSetO, dSeq, dSrc0, dSrc1, sSrc0, sSrc1, dIsi, fAdd, fSub, fMul, fMod, fDiv, fLt, fLe, fGt, fGe, dI2, dB2, dI2c, fIsB, fNotB, isNonD, fLen, fMax2, fMin2, fInt, fListOf, fTupOf, List.getElem?_cons_zero, List.getElem?_cons_succ, List.set_cons_zero, List.set_cons_succ, List.length_cons, List.length_nil, Bool.not_true, Bool.not_false]
                  refine ⟨e, f, min x.2 y.2, rfl, ?_⟩
                  simpa only [h3, Bool.true_and] using hr
                · rw [Bool.not_eq_true] at h3
                  simp only [h3, true_and, startD, startS, startN, dVar, dVarF, dC, dOp, dTru, truD, dTOp, dIsN, dNotN, dTIsN, dTNotN, dTAnd, dTOr, dTNot, dAnd, dOr, dNot, dIf, dChain, dTChain, dSl, dNoPart, dPart, dNil, dCons, dTup, dLst, dCall, dFn, dFnS, sNil, sSeq, sRet, sDrop, sIf, gN, gNil', gCons', gT, sAsg, sSet, sPar, sAug, sSetO, dSeq, dSrc0, dSrc1, sSrc0, sSrc1, dIsi, fAdd, fSub, fMul, fMod, fDiv, fLt, fLe, fGt, fGe, dI2, dB2, dI2c, fIsB, fNotB, isNonD, fLen, fMax2, fMin2, fInt, fListOf, fTupOf, List.getElem?_cons_zero, List.getElem?_cons_succ, List.set_cons_zero, List.set_cons_succ, List.length_cons, List.length_nil, Bool.not_true, Bool.not_false]
                  simpa only [h3, Bool.false_and] using hr
              | _ => exact hr
            · rw [Bool.not_eq_true] at h2
              simp only [h2, true_and, startD, startS, startN, dVar, dVarF, dC, dOp, dTru, truD, dTOp, dIsN, dNotN, dTIsN, dTNotN, dTAnd, dTOr, dTNot, dAnd, dOr, dNot, dIf, dChain, dTChain, dSl, dNoPart, dPart, dNil, dCons, dTup, dLst, dCall, dFn, dFnS, sNil, sSeq, sRet, sDrop, sIf, gN, gNil', gCons', gT, sAsg, sSet, sPar, sAug, sSetO, dSeq, dSrc0, dSrc1, sSrc0, sSrc1, dIsi, fAdd, fSub, fMul, fMod, fDiv, fLt, fLe, fGt, fGe, dI2, dB2, dI2c, fIsB, fNotB, isNonD, fLen, fMax2, fMin2, fInt, fListOf, fTupOf, List.getElem?_cons_zero, List.getElem?_cons_succ, List.set_cons_zero, List.set_cons_succ, List.length_cons, List.length_nil, Bool.not_true, Bool.not_false]
              simpa only [isTie, h1, h2, Bool.true_and, Bool.false_and] using hr
          | _ => exact hr
        · rw [Bool.not_eq_true] at h1
          simp only [h1, true_and, startD, startS, startN, dVar, dVarF, dC, dOp, dTru, truD, dTOp, dIsN, dNotN, dTIsN, dTNotN, dTAnd, dTOr, dTNot, dAnd, dOr, dNot, dIf, dChain, dTChain, dSl, dNoPart, dPart, dNil, dCons, dTup, dLst, dCall, dFn, dFnS, sNil, sSeq, sRet, sDrop, sIf, gN, gNil', gCons', gT, sAsg, sSet, sPar, sAug, sSetO, dSeq, dSrc0, dSrc1, sSrc0, sSrc1, dIsi, fAdd, fSub, fMul, fMod, fDiv, fLt, fLe, fGt, fGe, dI2, dB2, dI2c, fIsB, fNotB, isNonD, fLen, fMax2, fMin2, fInt, fListOf, fTupOf, List.getElem?_cons_zero, List.getElem?_cons_succ, List.set_cons_zero, List.set_cons_succ, List.length_cons, List.length_nil, Bool.not_true, Bool.not_false]
          have z : isTie pts (.tuple [one, .int j, first, e]) = false := by
            cases one <;> simp only [isTie, h1, Bool.false_and]
          rw [z] at hr
          exact hr
      | _ =>
        first
        | exact hr
        | (cases one <;> exact hr)
    | [] => exact hr
    | [_] => exact hr
    | [_, _] => exact hr
    | [_, _, _] => exact hr
    | a :: b :: c :: d :: e :: r =>
      have e : isTL (.tuple (a :: b :: c :: d :: e :: r)) 4 = false := by simp only [isTL, List.length_cons]; exact decide_eq_false (by omega)
      rw [e]
      simp only [isTie] at hr
      exact hr
  | _ => exact hr
end DD

namespace DD
open PySem L2
theorem lc_fm {i : Nat} {tt : DT} {te : DE} {R : List PyData → Env' → Prop} {ρ : Env'} (p : PyData → Bool) (f : PyData → PyData) : ∀ (ds acc : List PyData),
    (∀ d ∈ ds, ∀ K : Bool → Env' → Prop, K (p d) (ρ.set i (some (.dat d))) → tt (ρ.set i (some (.dat d))) K noEr) →
    (∀ d ∈ ds, ∀ K : PyData → Env' → Prop, K (f d) (ρ.set i (some (.dat d))) → te (ρ.set i (some (.dat d))) K noEr) → acc.length + ds.length ≤ big → R (acc ++ (ds.filter p).map f) (ρ.set i none) →
    lcGo (gN i) tt te [i] R ds acc (ρ.set i none)
  | [], acc, _, _, _, hR => by simpa only [lcGo, List.filter_nil, List.map_nil, List.append_nil] using hR
  | d :: r, acc, ht, h, hl, hR => by
    simp only [lcGo, gN, List.set_set, wipeD]
    simp only [List.length_cons] at hl
    refine ht d List.mem_cons_self _ ?_
    have t1 : ∀ x ∈ r, ∀ K : Bool → Env' → Prop, K (p x) (ρ.set i (some (.dat x))) → tt (ρ.set i (some (.dat x))) K noEr := fun x hx => ht x (List.mem_cons_of_mem _ hx)
    have t2 : ∀ x ∈ r, ∀ K : PyData → Env' → Prop, K (f x) (ρ.set i (some (.dat x))) → te (ρ.set i (some (.dat x))) K noEr := fun x hx => h x (List.mem_cons_of_mem _ hx)
    cases hp : p d with
    | true =>
      refine h d List.mem_cons_self _ ⟨by omega, ?_⟩
      rw [List.set_set]
      refine lc_fm p f r (acc ++ [f d]) t1 t2 (by simp only [List.length_append, List.length_cons, List.length_nil]; omega) ?_
      rw [List.filter_cons_of_pos hp] at hR
      simpa only [List.append_assoc, List.map_cons, List.cons_append, List.nil_append] using hR
    | false =>
      show lcGo (gN i) tt te [i] R r acc ((ρ.set i (some (.dat d))).set i none)
      rw [List.set_set]
      refine lc_fm p f r acc t1 t2 (by omega) ?_
      rwa [List.filter_cons_of_neg (by simp [hp])] at hR
theorem eqvAll_nil (xs : List PyData) : PyData.eqvAll xs [] = xs.isEmpty := by cases xs <;> rfl
theorem fNe_nil {xs : List PyData} (h : SeqAt.shaped (.list xs) = true) : fNe (.list xs) (.list []) = some (.bool (!xs.isEmpty)) := by
  have h2 : SeqAt.shaped (.list []) = true := by decide
  simp only [fNe, h, h2, Bool.and_true, if_true, PyData.eqv, eqvAll_nil]
theorem fEq_nil {xs : List PyData} (h : SeqAt.shaped (.list xs) = true) : fEq (.list xs) (.list []) = some (.bool xs.isEmpty) := by
  have h2 : SeqAt.shaped (.list []) = true := by decide
  simp only [fEq, h, h2, Bool.and_true, if_true, PyData.eqv, eqvAll_nil]
theorem depthAll_le {n : Nat} : ∀ {xs : List PyData}, (∀ x ∈ xs, x.depth ≤ n) → PyData.depthAll xs ≤ n
  | [], _ => by simp only [PyData.depthAll]; omega
  | x :: r, h => by
    simp only [PyData.depthAll]
    have h1 := h x List.mem_cons_self
    have h2 := depthAll_le fun y hy => h y (List.mem_cons_of_mem _ hy)
    omega
theorem canAll {xs : List PyData} (h : ∀ x ∈ xs, x.canLay0 = true) : PyData.canLayAll0 xs = true := by
  induction xs with
  | nil => simp only [PyData.canLayAll0]
  | cons x r ih => simp only [PyData.canLayAll0, Bool.and_eq_true]; exact ⟨h x List.mem_cons_self, ih fun y hy => h y (List.mem_cons_of_mem _ hy)⟩
theorem shaped_list {xs : List PyData} (h : ∀ x ∈ xs, x.canLay0 = true ∧ x.depth ≤ 62) : SeqAt.shaped (.list xs) = true := by
  unfold SeqAt.shaped
  simp only [PyData.canLay0, PyData.depth, Bool.and_eq_true, decide_eq_true_eq]
  have := depthAll_le (n := 62) fun x hx => (h x hx).2
  refine ⟨canAll fun x hx => (h x hx).1, ?_⟩
  refine decide_eq_true (?_ : PyData.depthAll xs + 1 ≤ 64)
  omega
theorem shaped_ones {α : Type} (l : List α) : SeqAt.shaped (.list (l.map fun _ => .int 1)) = true :=
  shaped_list fun x hx => by
    obtain ⟨_, _, rfl⟩ := List.mem_map.mp hx
    exact ⟨by simp only [PyData.canLay0], by simp [PyData.depth]⟩
theorem filter_empty {p : PyData → Bool} (xs : List PyData) : (xs.filter fun x => !p x).isEmpty = xs.all p := by
  induction xs with
  | nil => rfl
  | cons x r ih =>
    cases h : p x
    · rw [List.filter_cons_of_pos (by simp [h])]; simp [h]
    · rw [List.filter_cons_of_neg (by simp [h])]; simpa [h] using ih
theorem at0 (a : PyData) (r : List PyData) : atI (a :: r) 0 = some a := atI_nat (j := 0) rfl
theorem at1 (a b : PyData) (r : List PyData) : atI (a :: b :: r) 1 = some b := atI_nat (j := 1) rfl
theorem at2 (a b c : PyData) (r : List PyData) : atI (a :: b :: c :: r) 2 = some c := atI_nat (j := 2) rfl
theorem at3 (a b c d : PyData) (r : List PyData) : atI (a :: b :: c :: d :: r) 3 = some d := atI_nat (j := 3) rfl
theorem h__law_is_number : ∀ ds R Er, ds.length = 3 → f__law_is_number ds R Er → d__law_is_number { nx := fun _ => R .none, rt := R } (startD 3 ds) Er := by
  intro ds R Er hl ⟨v, l, h, e, hr⟩
  subst e
  show d__law_is_number _ [some (.dat v), some (.dat (.int l)), some (.dat (.int h))] Er
  cases v with
  | int i =>
    have e1 : isiD "int" (.int i) = true := rfl
    have e2 : isiD "bool" (.int i) = false := rfl
    simp only [d__law_is_number, e1, e2, true_and, startD, startS, startN, dVar, dVarF, dC, dOp, dTru, truD, dTOp, dIsN, dNotN, dTIsN, dTNotN, dTAnd, dTOr, dTNot, dAnd, dOr, dNot, dIf, dChain, dTChain, dSl, dNoPart, dPart, dNil, dCons, dTup, dLst, dCall, dFn, dFnS, sNil, sSeq, sRet, sDrop, sIf, gN, gNil', gCons', gT, sAsg, sSet, sPar, sAug, sSetO, dSeq, dSrc0, dSrc1, sSrc0, sSrc1, dIsi, fAdd, fSub, fMul, fMod, fDiv, fLt, fLe, fGt, fGe, dI2, dB2, dI2c, fIsB, fNotB, isNonD, fLen, fMax2, fMin2, fInt, fListOf, fTupOf, List.getElem?_cons_zero, List.getElem?_cons_succ, List.set_cons_zero, List.set_cons_succ, List.length_cons, List.length_nil, Bool.not_true, Bool.not_false]
    simp only [isFT] at hr
    by_cases h1 : l ≤ i
    · simp only [h1, decide_true, true_and, startD, startS, startN, dVar, dVarF, dC, dOp, dTru, truD, dTOp, dIsN, dNotN, dTIsN, dTNotN, dTAnd, dTOr, dTNot, dAnd, dOr, dNot, dIf, dChain, dTChain, dSl, dNoPart, dPart, dNil, dCons, dTup, dLst, dCall, dFn, dFnS, sNil, sSeq, sRet, sDrop, sIf, gN, gNil', gCons', gT, sAsg, sSet, sPar, sAug, sSetO, dSeq, dSrc0, dSrc1, sSrc0, sSrc1, dIsi, fAdd, fSub, fMul, fMod, fDiv, fLt, fLe, fGt, fGe, dI2, dB2, dI2c, fIsB, fNotB, isNonD, fLen, fMax2, fMin2, fInt, fListOf, fTupOf, List.getElem?_cons_zero, List.getElem?_cons_succ, List.set_cons_zero, List.set_cons_succ, List.length_cons, List.length_nil, Bool.not_true, Bool.not_false]
      simpa only [h1, decide_true, Bool.true_and] using hr
    · simp only [h1, decide_false, true_and, startD, startS, startN, dVar, dVarF, dC, dOp, dTru, truD, dTOp, dIsN, dNotN, dTIsN, dTNotN, dTAnd, dTOr, dTNot, dAnd, dOr, dNot, dIf, dChain, dTChain, dSl, dNoPart, dPart, dNil, dCons, dTup, dLst, dCall, dFn, dFnS, sNil, sSeq, sRet, sDrop, sIf, gN, gNil', gCons', gT, sAsg, sSet, sPar, sAug, sSetO, dSeq, dSrc0, dSrc1, sSrc0, sSrc1, dIsi, fAdd, fSub, fMul, fMod, fDiv, fLt, fLe, fGt, fGe, dI2, dB2, dI2c, fIsB, fNotB, isNonD, fLen, fMax2, fMin2, fInt, fListOf, fTupOf, List.getElem?_cons_zero, List.getElem?_cons_succ, List.set_cons_zero, List.set_cons_succ, List.length_cons, List.length_nil, Bool.not_true, Bool.not_false]
      simpa only [h1, decide_false, Bool.false_and] using hr
  | _ => exact hr
theorem h__law_is_life : ∀ ds R Er, ds.length = 3 → f__law_is_life ds R Er → d__law_is_life { nx := fun _ => R .none, rt := R } (startD 3 ds) Er := by
  intro ds R Er hl ⟨v, l, h, e, hr⟩
  subst e
  show d__law_is_life _ [some (.dat v), some (.dat (.int l)), some (.dat (.int h))] Er
  cases v with
  | tuple xs =>
    have e : isiD "tuple" (.tuple xs) = true := rfl
    match xs with
    | [a, b] =>
      have e1 : fNe (.int ((([a, b] : List PyData).length : Nat) : Int)) (.int 2) = some (.bool false) := rfl
      simp only [List.length_cons, List.length_nil] at e1
      simp only [d__law_is_life, e, e1, fIx, at0, at1, true_and, startD, startS, startN, dVar, dVarF, dC, dOp, dTru, truD, dTOp, dIsN, dNotN, dTIsN, dTNotN, dTAnd, dTOr, dTNot, dAnd, dOr, dNot, dIf, dChain, dTChain, dSl, dNoPart, dPart, dNil, dCons, dTup, dLst, dCall, dFn, dFnS, sNil, sSeq, sRet, sDrop, sIf, gN, gNil', gCons', gT, sAsg, sSet, sPar, sAug, sSetO, dSeq, dSrc0, dSrc1, sSrc0, sSrc1, dIsi, fAdd, fSub, fMul, fMod, fDiv, fLt, fLe, fGt, fGe, dI2, dB2, dI2c, fIsB, fNotB, isNonD, fLen, fMax2, fMin2, fInt, fListOf, fTupOf, List.getElem?_cons_zero, List.getElem?_cons_succ, List.set_cons_zero, List.set_cons_succ, List.length_cons, List.length_nil, Bool.not_true, Bool.not_false]
      refine ⟨a, l, h, rfl, ?_⟩
      cases a with
      | int i =>
        by_cases h1 : isFT (.int i) l h = true
        · simp only [h1]
          refine ⟨b, i, h, rfl, ?_⟩
          simpa only [lLife, h1, Bool.true_and] using hr
        · rw [Bool.not_eq_true] at h1
          simp only [h1]
          simpa only [lLife, h1, Bool.false_and] using hr
      | _ => exact hr
    | [] => exact hr
    | [_] => exact hr
    | a :: b :: c :: r =>
      have e1 : fNe (.int (((a :: b :: c :: r).length : Nat) : Int)) (.int 2) = some (.bool true) := by
        simp only [fNe, List.length_cons]
        rw [decide_eq_false (by omega)]; rfl
      simp only [List.length_cons] at e1
      simp only [d__law_is_life, e, e1, true_and, startD, startS, startN, dVar, dVarF, dC, dOp, dTru, truD, dTOp, dIsN, dNotN, dTIsN, dTNotN, dTAnd, dTOr, dTNot, dAnd, dOr, dNot, dIf, dChain, dTChain, dSl, dNoPart, dPart, dNil, dCons, dTup, dLst, dCall, dFn, dFnS, sNil, sSeq, sRet, sDrop, sIf, gN, gNil', gCons', gT, sAsg, sSet, sPar, sAug, sSetO, dSeq, dSrc0, dSrc1, sSrc0, sSrc1, dIsi, fAdd, fSub, fMul, fMod, fDiv, fLt, fLe, fGt, fGe, dI2, dB2, dI2c, fIsB, fNotB, isNonD, fLen, fMax2, fMin2, fInt, fListOf, fTupOf, List.getElem?_cons_zero, List.getElem?_cons_succ, List.set_cons_zero, List.set_cons_succ, List.length_cons, List.length_nil, Bool.not_true, Bool.not_false]
      exact hr
  | _ => exact hr
theorem h__law_is_tie : ∀ ds R Er, ds.length = 2 → f__law_is_tie ds R Er → d__law_is_tie { nx := fun _ => R .none, rt := R } (startD 4 ds) Er := by
  intro ds R Er hl ⟨v, pts, e, hr⟩
  subst e
  show d__law_is_tie _ [some (.dat v), some (.dat (.tuple (pts.map lifeD))), none, none] Er
  cases v with
  | tuple xs =>
    have e : isiD "tuple" (.tuple xs) = true := rfl
    match xs with
    | [a, b, f, g] =>
      have e1 : fNe (.int ((([a, b, f, g] : List PyData).length : Nat) : Int)) (.int 4) = some (.bool false) := rfl
      simp only [List.length_cons, List.length_nil] at e1
      simp only [d__law_is_tie, e, e1, fIx, at0, at1, true_and, startD, startS, startN, dVar, dVarF, dC, dOp, dTru, truD, dTOp, dIsN, dNotN, dTIsN, dTNotN, dTAnd, dTOr, dTNot, dAnd, dOr, dNot, dIf, dChain, dTChain, dSl, dNoPart, dPart, dNil, dCons, dTup, dLst, dCall, dFn, dFnS, sNil, sSeq, sRet, sDrop, sIf, gN, gNil', gCons', gT, sAsg, sSet, sPar, sAug, sSetO, dSeq, dSrc0, dSrc1, sSrc0, sSrc1, dIsi, fAdd, fSub, fMul, fMod, fDiv, fLt, fLe, fGt, fGe, dI2, dB2, dI2c, fIsB, fNotB, isNonD, fLen, fMax2, fMin2, fInt, fListOf, fTupOf, List.getElem?_cons_zero, List.getElem?_cons_succ, List.set_cons_zero, List.set_cons_succ, List.length_cons, List.length_nil, Bool.not_true, Bool.not_false]
      refine ⟨b, 1, (pts.length : Int) - 1, by rw [List.length_map], ?_⟩
      cases b with
      | int j =>
        by_cases h1 : isFT (.int j) 1 ((pts.length : Int) - 1) = true
        · simp only [h1, true_and, startD, startS, startN, dVar, dVarF, dC, dOp, dTru, truD, dTOp, dIsN, dNotN, dTIsN, dTNotN, dTAnd, dTOr, dTNot, dAnd, dOr, dNot, dIf, dChain, dTChain, dSl, dNoPart, dPart, dNil, dCons, dTup, dLst, dCall, dFn, dFnS, sNil, sSeq, sRet, sDrop, sIf, gN, gNil', gCons', gT, sAsg, sSet, sPar, sAug, sSetO, dSeq, dSrc0, dSrc1, sSrc0, sSrc1, dIsi, fAdd, fSub, fMul, fMod, fDiv, fLt, fLe, fGt, fGe, dI2, dB2, dI2c, fIsB, fNotB, isNonD, fLen, fMax2, fMin2, fInt, fListOf, fTupOf, List.getElem?_cons_zero, List.getElem?_cons_succ, List.set_cons_zero, List.set_cons_succ, List.length_cons, List.length_nil, Bool.not_true, Bool.not_false]
          refine ⟨a, 0, j - 1, rfl, ?_⟩
          cases a with
          | int i =>
            by_cases h2 : isFT (.int i) 0 (j - 1) = true
            · simp only [h2, true_and, startD, startS, startN, dVar, dVarF, dC, dOp, dTru, truD, dTOp, dIsN, dNotN, dTIsN, dTNotN, dTAnd, dTOr, dTNot, dAnd, dOr, dNot, dIf, dChain, dTChain, dSl, dNoPart, dPart, dNil, dCons, dTup, dLst, dCall, dFn, dFnS, sNil, sSeq, sRet, sDrop, sIf, gN, gNil', gCons', gT, sAsg, sSet, sPar, sAug, sSetO, dSeq, dSrc0, dSrc1, sSrc0, sSrc1, dIsi, fAdd, fSub, fMul, fMod, fDiv, fLt, fLe, fGt, fGe, dI2, dB2, dI2c, fIsB, fNotB, isNonD, fLen, fMax2, fMin2, fInt, fListOf, fTupOf, List.getElem?_cons_zero, List.getElem?_cons_succ, List.set_cons_zero, List.set_cons_succ, List.length_cons, List.length_nil, Bool.not_true, Bool.not_false]
              have b1 := h1
              have b2 := h2
              simp only [isFT, Bool.and_eq_true, decide_eq_true_eq] at b1 b2
              obtain ⟨x, hx⟩ := at_of (xs := pts) (i := i) b2.1 (by omega)
              obtain ⟨y, hy⟩ := at_of (xs := pts) (i := j) (by omega) b1.2
              simp only [lTie, h1, h2, hx, hy, Bool.true_and] at hr
              have ec : fSl (.tuple [.int i, .int j, f, g]) (some 2) none = some (.tuple [f, g]) := rfl
              simp only [fIx, atI_map b2.1 hx, atI_map (show 0 ≤ j by omega) hy, lifeD, at0, at1, maxI, minI, ec, true_and, startD, startS, startN, dVar, dVarF, dC, dOp, dTru, truD, dTOp, dIsN, dNotN, dTIsN, dTNotN, dTAnd, dTOr, dTNot, dAnd, dOr, dNot, dIf, dChain, dTChain, dSl, dNoPart, dPart, dNil, dCons, dTup, dLst, dCall, dFn, dFnS, sNil, sSeq, sRet, sDrop, sIf, gN, gNil', gCons', gT, sAsg, sSet, sPar, sAug, sSetO, dSeq, dSrc0, dSrc1, sSrc0, sSrc1, dIsi, fAdd, fSub, fMul, fMod, fDiv, fLt, fLe, fGt, fGe, dI2, dB2, dI2c, fIsB, fNotB, isNonD, fLen, fMax2, fMin2, fInt, fListOf, fTupOf, List.getElem?_cons_zero, List.getElem?_cons_succ, List.set_cons_zero, List.set_cons_succ, List.length_cons, List.length_nil, Bool.not_true, Bool.not_false]
              exact ⟨_, _, _, rfl, hr⟩
            · rw [Bool.not_eq_true] at h2
              simp only [h2, true_and, startD, startS, startN, dVar, dVarF, dC, dOp, dTru, truD, dTOp, dIsN, dNotN, dTIsN, dTNotN, dTAnd, dTOr, dTNot, dAnd, dOr, dNot, dIf, dChain, dTChain, dSl, dNoPart, dPart, dNil, dCons, dTup, dLst, dCall, dFn, dFnS, sNil, sSeq, sRet, sDrop, sIf, gN, gNil', gCons', gT, sAsg, sSet, sPar, sAug, sSetO, dSeq, dSrc0, dSrc1, sSrc0, sSrc1, dIsi, fAdd, fSub, fMul, fMod, fDiv, fLt, fLe, fGt, fGe, dI2, dB2, dI2c, fIsB, fNotB, isNonD, fLen, fMax2, fMin2, fInt, fListOf, fTupOf, List.getElem?_cons_zero, List.getElem?_cons_succ, List.set_cons_zero, List.set_cons_succ, List.length_cons, List.length_nil, Bool.not_true, Bool.not_false]
              simpa only [lTie, h1, h2, Bool.true_and, Bool.false_and] using hr
          | _ =>
            simp only [lTie, h1, Bool.true_and] at hr
            exact hr
        · rw [Bool.not_eq_true] at h1
          simp only [h1, true_and, startD, startS, startN, dVar, dVarF, dC, dOp, dTru, truD, dTOp, dIsN, dNotN, dTIsN, dTNotN, dTAnd, dTOr, dTNot, dAnd, dOr, dNot, dIf, dChain, dTChain, dSl, dNoPart, dPart, dNil, dCons, dTup, dLst, dCall, dFn, dFnS, sNil, sSeq, sRet, sDrop, sIf, gN, gNil', gCons', gT, sAsg, sSet, sPar, sAug, sSetO, dSeq, dSrc0, dSrc1, sSrc0, sSrc1, dIsi, fAdd, fSub, fMul, fMod, fDiv, fLt, fLe, fGt, fGe, dI2, dB2, dI2c, fIsB, fNotB, isNonD, fLen, fMax2, fMin2, fInt, fListOf, fTupOf, List.getElem?_cons_zero, List.getElem?_cons_succ, List.set_cons_zero, List.set_cons_succ, List.length_cons, List.length_nil, Bool.not_true, Bool.not_false]
          simpa only [lTie, h1, Bool.false_and] using hr
      | _ => exact hr
    | [] => exact hr
    | [_] => exact hr
    | [_, _] => exact hr
    | [_, _, _] => exact hr
    | a :: b :: c :: d :: g :: r =>
      have e1 : fNe (.int (((a :: b :: c :: d :: g :: r).length : Nat) : Int)) (.int 4) = some (.bool true) := by
        simp only [fNe, List.length_cons]
        rw [decide_eq_false (by omega)]; rfl
      simp only [List.length_cons] at e1
      simp only [d__law_is_tie, e, e1, true_and, startD, startS, startN, dVar, dVarF, dC, dOp, dTru, truD, dTOp, dIsN, dNotN, dTIsN, dTNotN, dTAnd, dTOr, dTNot, dAnd, dOr, dNot, dIf, dChain, dTChain, dSl, dNoPart, dPart, dNil, dCons, dTup, dLst, dCall, dFn, dFnS, sNil, sSeq, sRet, sDrop, sIf, gN, gNil', gCons', gT, sAsg, sSet, sPar, sAug, sSetO, dSeq, dSrc0, dSrc1, sSrc0, sSrc1, dIsi, fAdd, fSub, fMul, fMod, fDiv, fLt, fLe, fGt, fGe, dI2, dB2, dI2c, fIsB, fNotB, isNonD, fLen, fMax2, fMin2, fInt, fListOf, fTupOf, List.getElem?_cons_zero, List.getElem?_cons_succ, List.set_cons_zero, List.set_cons_succ, List.length_cons, List.length_nil, Bool.not_true, Bool.not_false]
      exact hr
  | _ => exact hr
theorem lLife_str (l : Int) (x : PyData) : lLife x 0 l = isStr (l + 1) x := by
  cases x with
  | tuple xs =>
    match xs with
    | [a, b] =>
      cases b with
      | int j =>
        cases a with
        | int i =>
          simp only [lLife, isStr, isFT]
          rw [Bool.eq_iff_iff]
          simp only [Bool.and_eq_true, decide_eq_true_eq]
          omega
        | _ => simp [lLife, isStr, isFT]
      | _ => cases a <;> simp [lLife, isStr, isFT]
    | [] => rfl
    | [_] => rfl
    | a :: b :: c :: r => rfl
  | _ => rfl
theorem lTie_tie (x : PyData) (pts : List (Int × Int)) : lTie x pts = isTie pts x := by
  cases x with
  | tuple xs =>
    match xs with
    | [a, b, f, g] =>
      cases b with
      | int j =>
        cases a with
        | int i =>
          have e : ∀ z : Bool, (isFT (.int j) 1 ((pts.length : Int) - 1) && (isFT (.int i) 0 (j - 1) && z)) = (isFT (.int j) 0 ((pts.length : Int) - 1) && (isFT (.int i) 0 (j - 1) && z)) := fun z => by
            simp only [isFT]
            rw [Bool.eq_iff_iff]
            simp only [Bool.and_eq_true, decide_eq_true_eq]
            constructor
            · rintro ⟨h1, h2, h3⟩; exact ⟨⟨by omega, by omega⟩, h2, h3⟩
            · rintro ⟨h1, h2, h3⟩; exact ⟨⟨by omega, by omega⟩, h2, h3⟩
          simp only [lTie, isTie]
          rw [e]
          congr 2
        | _ => simp [lTie, isTie]
      | _ => cases a <;> rfl
    | [] => rfl
    | [_] => rfl
    | [_, _] => rfl
    | [_, _, _] => rfl
    | a :: b :: c :: d :: e :: r => rfl
  | _ => rfl
theorem lNet_net (v : PyData) : lNet v = isNet v := by
  cases v with
  | tuple xs =>
    match xs with
    | [a, b, c] =>
      cases a with
      | int l =>
        cases b with
        | tuple ps =>
          cases c with
          | tuple ts =>
            simp only [lNet, isNet, arePts, areTies, ptsOf]
            have e1 : (ps.all fun x => lLife x 0 l) = ps.all (isStr (l + 1)) := congrArg (fun f => ps.all f) (funext fun x => lLife_str l x)
            have e2 : (ts.all fun t => lTie t (ps.map lifeOf)) = ts.all (isTie (ps.map lifeOf)) := congrArg (fun f => ts.all f) (funext fun x => lTie_tie x _)
            rw [e1, e2]
            generalize isFT (.int l) 0 8 = z1
            generalize decide (ps.length ≤ 7) = z2
            generalize decide (ts.length ≤ 9) = z3
            generalize ps.all (isStr (l + 1)) = z4
            generalize ts.all (isTie (ps.map lifeOf)) = z5
            revert z1 z2 z3 z4 z5
            decide
          | _ => simp [lNet, isNet, areTies]
        | _ => simp [lNet, isNet, arePts]
      | _ => rfl
    | [] => rfl
    | [_] => rfl
    | [_, _] => rfl
    | a :: b :: c :: d :: r => rfl
  | _ => rfl
theorem h__law_is_net : ∀ ds R Er, ds.length = 1 → f__law_is_net ds R Er → d__law_is_net { nx := fun _ => R .none, rt := R } (startD 3 ds) Er := by
  intro ds R Er hl ⟨v, e, hr⟩
  subst e
  show d__law_is_net _ [some (.dat v), none, none] Er
  cases v with
  | tuple xs =>
    have e : isiD "tuple" (.tuple xs) = true := rfl
    match xs with
    | [a, b, c] =>
      have e1 : fNe (.int ((([a, b, c] : List PyData).length : Nat) : Int)) (.int 3) = some (.bool false) := rfl
      simp only [List.length_cons, List.length_nil] at e1
      simp only [d__law_is_net, e, e1, fIx, at0, at1, at2, true_and, startD, startS, startN, dVar, dVarF, dC, dOp, dTru, truD, dTOp, dIsN, dNotN, dTIsN, dTNotN, dTAnd, dTOr, dTNot, dAnd, dOr, dNot, dIf, dChain, dTChain, dSl, dNoPart, dPart, dNil, dCons, dTup, dLst, dCall, dFn, dFnS, sNil, sSeq, sRet, sDrop, sIf, gN, gNil', gCons', gT, sAsg, sSet, sPar, sAug, sSetO, dSeq, dSrc0, dSrc1, sSrc0, sSrc1, dIsi, fAdd, fSub, fMul, fMod, fDiv, fLt, fLe, fGt, fGe, dI2, dB2, dI2c, fIsB, fNotB, isNonD, fLen, fMax2, fMin2, fInt, fListOf, fTupOf, List.getElem?_cons_zero, List.getElem?_cons_succ, List.set_cons_zero, List.set_cons_succ, List.length_cons, List.length_nil, Bool.not_true, Bool.not_false]
      refine ⟨a, 0, 8, rfl, ?_⟩
      cases a with
      | int l =>
        by_cases h1 : isFT (.int l) 0 8 = true
        · simp only [h1, true_and, startD, startS, startN, dVar, dVarF, dC, dOp, dTru, truD, dTOp, dIsN, dNotN, dTIsN, dTNotN, dTAnd, dTOr, dTNot, dAnd, dOr, dNot, dIf, dChain, dTChain, dSl, dNoPart, dPart, dNil, dCons, dTup, dLst, dCall, dFn, dFnS, sNil, sSeq, sRet, sDrop, sIf, gN, gNil', gCons', gT, sAsg, sSet, sPar, sAug, sSetO, dSeq, dSrc0, dSrc1, sSrc0, sSrc1, dIsi, fAdd, fSub, fMul, fMod, fDiv, fLt, fLe, fGt, fGe, dI2, dB2, dI2c, fIsB, fNotB, isNonD, fLen, fMax2, fMin2, fInt, fListOf, fTupOf, List.getElem?_cons_zero, List.getElem?_cons_succ, List.set_cons_zero, List.set_cons_succ, List.length_cons, List.length_nil, Bool.not_true, Bool.not_false]
          simp only [lNet, h1, Bool.true_and] at hr
          cases b with
          | tuple ps =>
            have eb : isiD "tuple" (.tuple ps) = true := rfl
            simp only [eb, true_and, startD, startS, startN, dVar, dVarF, dC, dOp, dTru, truD, dTOp, dIsN, dNotN, dTIsN, dTNotN, dTAnd, dTOr, dTNot, dAnd, dOr, dNot, dIf, dChain, dTChain, dSl, dNoPart, dPart, dNil, dCons, dTup, dLst, dCall, dFn, dFnS, sNil, sSeq, sRet, sDrop, sIf, gN, gNil', gCons', gT, sAsg, sSet, sPar, sAug, sSetO, dSeq, dSrc0, dSrc1, sSrc0, sSrc1, dIsi, fAdd, fSub, fMul, fMod, fDiv, fLt, fLe, fGt, fGe, dI2, dB2, dI2c, fIsB, fNotB, isNonD, fLen, fMax2, fMin2, fInt, fListOf, fTupOf, List.getElem?_cons_zero, List.getElem?_cons_succ, List.set_cons_zero, List.set_cons_succ, List.length_cons, List.length_nil, Bool.not_true, Bool.not_false]
            by_cases h2 : (7 : Int) < ps.length
            · simp only [decide_eq_true h2]
              simpa only [decide_eq_false (show ¬ ps.length ≤ 7 by omega), Bool.false_and] using hr
            · simp only [decide_eq_false h2]
              simp only [decide_eq_true (show ps.length ≤ 7 by omega), Bool.true_and] at hr
              cases c with
              | tuple ts =>
                have ec : isiD "tuple" (.tuple ts) = true := rfl
                simp only [ec, true_and, startD, startS, startN, dVar, dVarF, dC, dOp, dTru, truD, dTOp, dIsN, dNotN, dTIsN, dTNotN, dTAnd, dTOr, dTNot, dAnd, dOr, dNot, dIf, dChain, dTChain, dSl, dNoPart, dPart, dNil, dCons, dTup, dLst, dCall, dFn, dFnS, sNil, sSeq, sRet, sDrop, sIf, gN, gNil', gCons', gT, sAsg, sSet, sPar, sAug, sSetO, dSeq, dSrc0, dSrc1, sSrc0, sSrc1, dIsi, fAdd, fSub, fMul, fMod, fDiv, fLt, fLe, fGt, fGe, dI2, dB2, dI2c, fIsB, fNotB, isNonD, fLen, fMax2, fMin2, fInt, fListOf, fTupOf, List.getElem?_cons_zero, List.getElem?_cons_succ, List.set_cons_zero, List.set_cons_succ, List.length_cons, List.length_nil, Bool.not_true, Bool.not_false]
                by_cases h3 : (9 : Int) < ts.length
                · simp only [decide_eq_true h3]
                  simpa only [decide_eq_false (show ¬ ts.length ≤ 9 by omega), Bool.false_and] using hr
                · simp only [decide_eq_false h3]
                  simp only [decide_eq_true (show ts.length ≤ 9 by omega), Bool.true_and] at hr
                  simp only [dLc, fIx, at1, true_and, startD, startS, startN, dVar, dVarF, dC, dOp, dTru, truD, dTOp, dIsN, dNotN, dTIsN, dTNotN, dTAnd, dTOr, dTNot, dAnd, dOr, dNot, dIf, dChain, dTChain, dSl, dNoPart, dPart, dNil, dCons, dTup, dLst, dCall, dFn, dFnS, sNil, sSeq, sRet, sDrop, sIf, gN, gNil', gCons', gT, sAsg, sSet, sPar, sAug, sSetO, dSeq, dSrc0, dSrc1, sSrc0, sSrc1, dIsi, fAdd, fSub, fMul, fMod, fDiv, fLt, fLe, fGt, fGe, dI2, dB2, dI2c, fIsB, fNotB, isNonD, fLen, fMax2, fMin2, fInt, fListOf, fTupOf, List.getElem?_cons_zero, List.getElem?_cons_succ, List.set_cons_zero, List.set_cons_succ, List.length_cons, List.length_nil, Bool.not_true, Bool.not_false]
                  refine lc_fm (ρ := [some (.dat (.tuple [.int l, .tuple ps, .tuple ts])), none, none]) (fun x => !lLife x 0 l) (fun _ => .int 1) ps [] ?_ ?_ (by simp only [List.length_nil, big]; omega) ?_
                  · intro d _ K hk
                    simp only [fIx, at0, true_and, startD, startS, startN, dVar, dVarF, dC, dOp, dTru, truD, dTOp, dIsN, dNotN, dTIsN, dTNotN, dTAnd, dTOr, dTNot, dAnd, dOr, dNot, dIf, dChain, dTChain, dSl, dNoPart, dPart, dNil, dCons, dTup, dLst, dCall, dFn, dFnS, sNil, sSeq, sRet, sDrop, sIf, gN, gNil', gCons', gT, sAsg, sSet, sPar, sAug, sSetO, dSeq, dSrc0, dSrc1, sSrc0, sSrc1, dIsi, fAdd, fSub, fMul, fMod, fDiv, fLt, fLe, fGt, fGe, dI2, dB2, dI2c, fIsB, fNotB, isNonD, fLen, fMax2, fMin2, fInt, fListOf, fTupOf, List.getElem?_cons_zero, List.getElem?_cons_succ, List.set_cons_zero, List.set_cons_succ, List.length_cons, List.length_nil, Bool.not_true, Bool.not_false]
                    exact ⟨d, 0, l, rfl, hk⟩
                  · intro d _ K hk
                    exact hk
                  · simp only [List.nil_append, fNe_nil (shaped_ones _), List.isEmpty_map, filter_empty, true_and, startD, startS, startN, dVar, dVarF, dC, dOp, dTru, truD, dTOp, dIsN, dNotN, dTIsN, dTNotN, dTAnd, dTOr, dTNot, dAnd, dOr, dNot, dIf, dChain, dTChain, dSl, dNoPart, dPart, dNil, dCons, dTup, dLst, dCall, dFn, dFnS, sNil, sSeq, sRet, sDrop, sIf, gN, gNil', gCons', gT, sAsg, sSet, sPar, sAug, sSetO, dSeq, dSrc0, dSrc1, sSrc0, sSrc1, dIsi, fAdd, fSub, fMul, fMod, fDiv, fLt, fLe, fGt, fGe, dI2, dB2, dI2c, fIsB, fNotB, isNonD, fLen, fMax2, fMin2, fInt, fListOf, fTupOf, List.getElem?_cons_zero, List.getElem?_cons_succ, List.set_cons_zero, List.set_cons_succ, List.length_cons, List.length_nil, Bool.not_true, Bool.not_false]
                    refine ⟨by decide, ?_⟩
                    cases h4 : ps.all fun x => lLife x 0 l with
                    | false =>
                      simp only [h4, Bool.false_and] at hr
                      exact hr
                    | true =>
                      simp only [h4, Bool.true_and] at hr
                      have ep : ps = (ps.map lifeOf).map lifeD := lives_of (p := l + 1) (by
                        rw [← h4]
                        exact congrArg (fun f => ps.all f) (funext fun x => (lLife_str l x).symm))
                      simp only [dLc, fIx, at2, true_and, startD, startS, startN, dVar, dVarF, dC, dOp, dTru, truD, dTOp, dIsN, dNotN, dTIsN, dTNotN, dTAnd, dTOr, dTNot, dAnd, dOr, dNot, dIf, dChain, dTChain, dSl, dNoPart, dPart, dNil, dCons, dTup, dLst, dCall, dFn, dFnS, sNil, sSeq, sRet, sDrop, sIf, gN, gNil', gCons', gT, sAsg, sSet, sPar, sAug, sSetO, dSeq, dSrc0, dSrc1, sSrc0, sSrc1, dIsi, fAdd, fSub, fMul, fMod, fDiv, fLt, fLe, fGt, fGe, dI2, dB2, dI2c, fIsB, fNotB, isNonD, fLen, fMax2, fMin2, fInt, fListOf, fTupOf, List.getElem?_cons_zero, List.getElem?_cons_succ, List.set_cons_zero, List.set_cons_succ, List.length_cons, List.length_nil, Bool.not_true, Bool.not_false]
                      refine lc_fm (ρ := [some (.dat (.tuple [.int l, .tuple ps, .tuple ts])), none, none]) (fun x => !lTie x (ps.map lifeOf)) (fun _ => .int 1) ts [] ?_ ?_ (by simp only [List.length_nil, big]; omega) ?_
                      · intro d _ K hk
                        simp only [fIx, at1, true_and, startD, startS, startN, dVar, dVarF, dC, dOp, dTru, truD, dTOp, dIsN, dNotN, dTIsN, dTNotN, dTAnd, dTOr, dTNot, dAnd, dOr, dNot, dIf, dChain, dTChain, dSl, dNoPart, dPart, dNil, dCons, dTup, dLst, dCall, dFn, dFnS, sNil, sSeq, sRet, sDrop, sIf, gN, gNil', gCons', gT, sAsg, sSet, sPar, sAug, sSetO, dSeq, dSrc0, dSrc1, sSrc0, sSrc1, dIsi, fAdd, fSub, fMul, fMod, fDiv, fLt, fLe, fGt, fGe, dI2, dB2, dI2c, fIsB, fNotB, isNonD, fLen, fMax2, fMin2, fInt, fListOf, fTupOf, List.getElem?_cons_zero, List.getElem?_cons_succ, List.set_cons_zero, List.set_cons_succ, List.length_cons, List.length_nil, Bool.not_true, Bool.not_false]
                        exact ⟨d, ps.map lifeOf, by rw [← ep], hk⟩
                      · intro d _ K hk
                        exact hk
                      · simp only [List.nil_append, fEq_nil (shaped_ones _), List.isEmpty_map, filter_empty, true_and, startD, startS, startN, dVar, dVarF, dC, dOp, dTru, truD, dTOp, dIsN, dNotN, dTIsN, dTNotN, dTAnd, dTOr, dTNot, dAnd, dOr, dNot, dIf, dChain, dTChain, dSl, dNoPart, dPart, dNil, dCons, dTup, dLst, dCall, dFn, dFnS, sNil, sSeq, sRet, sDrop, sIf, gN, gNil', gCons', gT, sAsg, sSet, sPar, sAug, sSetO, dSeq, dSrc0, dSrc1, sSrc0, sSrc1, dIsi, fAdd, fSub, fMul, fMod, fDiv, fLt, fLe, fGt, fGe, dI2, dB2, dI2c, fIsB, fNotB, isNonD, fLen, fMax2, fMin2, fInt, fListOf, fTupOf, List.getElem?_cons_zero, List.getElem?_cons_succ, List.set_cons_zero, List.set_cons_succ, List.length_cons, List.length_nil, Bool.not_true, Bool.not_false]
                        exact ⟨by decide, hr⟩
              | _ => exact hr
          | _ => exact hr
        · rw [Bool.not_eq_true] at h1
          simp only [h1, true_and, startD, startS, startN, dVar, dVarF, dC, dOp, dTru, truD, dTOp, dIsN, dNotN, dTIsN, dTNotN, dTAnd, dTOr, dTNot, dAnd, dOr, dNot, dIf, dChain, dTChain, dSl, dNoPart, dPart, dNil, dCons, dTup, dLst, dCall, dFn, dFnS, sNil, sSeq, sRet, sDrop, sIf, gN, gNil', gCons', gT, sAsg, sSet, sPar, sAug, sSetO, dSeq, dSrc0, dSrc1, sSrc0, sSrc1, dIsi, fAdd, fSub, fMul, fMod, fDiv, fLt, fLe, fGt, fGe, dI2, dB2, dI2c, fIsB, fNotB, isNonD, fLen, fMax2, fMin2, fInt, fListOf, fTupOf, List.getElem?_cons_zero, List.getElem?_cons_succ, List.set_cons_zero, List.set_cons_succ, List.length_cons, List.length_nil, Bool.not_true, Bool.not_false]
          simpa only [lNet, h1, Bool.false_and] using hr
      | _ => exact hr
    | [] => exact hr
    | [_] => exact hr
    | [_, _] => exact hr
    | a :: b :: c :: d :: r =>
      have e1 : fNe (.int (((a :: b :: c :: d :: r).length : Nat) : Int)) (.int 3) = some (.bool true) := by
        simp only [fNe, List.length_cons]
        rw [decide_eq_false (by omega)]; rfl
      simp only [List.length_cons] at e1
      simp only [d__law_is_net, e, e1, true_and, startD, startS, startN, dVar, dVarF, dC, dOp, dTru, truD, dTOp, dIsN, dNotN, dTIsN, dTNotN, dTAnd, dTOr, dTNot, dAnd, dOr, dNot, dIf, dChain, dTChain, dSl, dNoPart, dPart, dNil, dCons, dTup, dLst, dCall, dFn, dFnS, sNil, sSeq, sRet, sDrop, sIf, gN, gNil', gCons', gT, sAsg, sSet, sPar, sAug, sSetO, dSeq, dSrc0, dSrc1, sSrc0, sSrc1, dIsi, fAdd, fSub, fMul, fMod, fDiv, fLt, fLe, fGt, fGe, dI2, dB2, dI2c, fIsB, fNotB, isNonD, fLen, fMax2, fMin2, fInt, fListOf, fTupOf, List.getElem?_cons_zero, List.getElem?_cons_succ, List.set_cons_zero, List.set_cons_succ, List.length_cons, List.length_nil, Bool.not_true, Bool.not_false]
      exact hr
  | _ => exact hr
end DD

namespace DD
open PySem L2
theorem for_ind {g : DG} {body : DS} {D : DEnds} {Er : Er'} (I : List PyData → Env' → Prop) (hn : ∀ ρ, I [] ρ → D.nx ρ)
    (hs : ∀ d r ρ, I (d :: r) ρ → (∀ ρ', I r ρ' → forGo g body D Er r ρ') → forGo g body D Er (d :: r) ρ) : ∀ ds ρ, I ds ρ → forGo g body D Er ds ρ
  | [], ρ, h => hn ρ h
  | d :: r, ρ, h => hs d r ρ h fun ρ' h' => for_ind I hn hs r ρ' h'
theorem lc_ind {g : DG} {tt : DT} {te : DE} {own : List Nat} {R : List PyData → Env' → Prop} (I : List PyData → List PyData → Env' → Prop) (hn : ∀ acc ρ, I [] acc ρ → R acc ρ)
    (hs : ∀ d r acc ρ, I (d :: r) acc ρ → (∀ acc' ρ', I r acc' ρ' → lcGo g tt te own R r acc' ρ') → lcGo g tt te own R (d :: r) acc ρ) : ∀ ds acc ρ, I ds acc ρ → lcGo g tt te own R ds acc ρ
  | [], acc, ρ, h => hn acc ρ h
  | d :: r, acc, ρ, h => hs d r acc ρ h fun acc' ρ' h' => lc_ind I hn hs r acc' ρ' h'
theorem bits_le {x : Int} {k : Nat} (h : x.natAbs < 2 ^ k) : Builtin.Int.intBits x ≤ k := by
  unfold Builtin.Int.intBits
  split
  · omega
  · rename_i hx
    have hx : x ≠ 0 := by simpa using hx
    have h2 : x.natAbs ≠ 0 := by omega
    have := (Nat.log2_lt h2).mpr h
    omega
theorem bits_lt {x : Int} {k : Nat} (h : Builtin.Int.intBits x ≤ k) : x.natAbs < 2 ^ k := by
  unfold Builtin.Int.intBits at h
  split at h
  · rename_i hx
    have hx : x = 0 := by simpa using hx
    subst hx
    exact Nat.pos_of_ne_zero (by simp)
  · rename_i hx
    have hx : x ≠ 0 := by simpa using hx
    have h2 : x.natAbs ≠ 0 := by omega
    exact (Nat.log2_lt h2).mp (by omega)
theorem bits_add {x y : Int} {k : Nat} (h : Builtin.Int.intBits x ≤ k) (h48 : 48 ≤ k) (hy : y.natAbs < 2 ^ 48) : Builtin.Int.intBits (y + x) ≤ k + 1 := by
  have h1 := bits_lt h
  have h2 : 2 ^ 48 ≤ 2 ^ k := Nat.pow_le_pow_right (by omega) h48
  refine bits_le ?_
  have h3 : (y + x).natAbs ≤ y.natAbs + x.natAbs := Int.natAbs_add_le y x
  rw [Nat.pow_succ]
  omega
theorem mulOk_r (i : Int) {j : Int} (h0 : 0 ≤ j) (h1 : j < 1000000) : mulOk i j = true := by
  unfold mulOk
  have e1 : decide (-(2 ^ 64) < j) = true := decide_eq_true (by omega)
  have e2 : decide (j < 2 ^ 64) = true := decide_eq_true (by omega)
  rw [e1, e2]; simp
theorem h__law_draw : ∀ ds R Er, ds.length + 1 = 2 → f__law_draw ds R Er → d__law_draw { nx := fun _ => R .none, rt := R } (startS 3 ds) Er := by
  intro ds R Er hl ⟨n, e, h0, h1, hr⟩
  subst e
  show d__law_draw _ [some .src, some (.dat (.int n)), none] Er
  have md : ∀ i : Int, fMod (.int i) (.int n) = some (.int (i % n)) := fun i => by simp only [fMod, dI2c, decide_eq_true h0, if_true]
  have dv : ∀ i : Int, fDiv (.int i) (.int n) = some (.int (i / n)) := fun i => by simp only [fDiv, dI2c, decide_eq_true h0, decide_eq_true h1, Bool.and_true, if_true]
  refine ⟨rfl, fun m hm => ?_⟩
  simp only [fGe, dB2, true_and, startD, startS, startN, dVar, dVarF, dC, dOp, dTru, truD, dTOp, dIsN, dNotN, dTIsN, dTNotN, dTAnd, dTOr, dTNot, dAnd, dOr, dNot, dIf, dChain, dTChain, dSl, dNoPart, dPart, dNil, dCons, dTup, dLst, dCall, dFn, dFnS, sNil, sSeq, sRet, sDrop, sIf, gN, gNil', gCons', gT, sAsg, sSet, sPar, sAug, sSetO, dSeq, dSrc0, dSrc1, sSrc0, sSrc1, dIsi, fAdd, fSub, fMul, fMod, fDiv, fLt, fLe, fGt, fGe, dI2, dB2, dI2c, fIsB, fNotB, isNonD, fLen, fMax2, fMin2, fInt, fListOf, fTupOf, List.getElem?_cons_zero, List.getElem?_cons_succ, List.set_cons_zero, List.set_cons_succ, List.length_cons, List.length_nil, Bool.not_true, Bool.not_false]
  by_cases h : n ≤ m
  · simp only [decide_eq_true h]
    intro m2 hm2
    simp only [decide_eq_true h0, decide_eq_true h1, Bool.and_self, if_true]
    intro m3 hm3
    exact ⟨Int.ediv_nonneg hm3 (by omega), hr _ (Int.emod_nonneg _ (by omega)) (Int.emod_lt_of_pos _ h0)⟩
  · simp only [decide_eq_false h]
    intro m2 hm2 hm3
    simp only [mulOk_r m2 (show (0 : Int) ≤ 69621 by omega) (by omega), if_true, decide_eq_true (show (0 : Int) < 2147483647 by omega)]
    refine ⟨Int.emod_nonneg _ (by omega), by have := Int.emod_lt_of_pos (m2 * 69621 + 7129) (show (0 : Int) < 2147483647 by omega); omega, ?_⟩
    intro m4 h4 h5
    have pw : powOk m4 5 = true := by
      unfold powOk
      have b : Builtin.Int.intBits m4 ≤ 31 := bits_le (by have : (2 : Nat) ^ 31 = 2147483648 := by decide
                                                          omega)
      simp only [Bool.and_eq_true, decide_eq_true_eq]
      exact ⟨by omega, by have : (2 : Int) ^ 27 = 134217728 := by decide
                          omega⟩
    simp only [fPow, dI2c, pw, if_true, decide_eq_true h0, decide_eq_true (show (0 : Int) < 1000000007 by omega), decide_eq_true (show (0 : Int) < 41 by omega), decide_eq_true (show (41 : Int) < 1073741824 by omega), Bool.and_self]
    exact hr _ (Int.emod_nonneg _ (by omega)) (Int.emod_lt_of_pos _ h0)
end DD

namespace DD
open PySem L2
theorem h__law_pick : ∀ ds R Er, ds.length + 1 = 2 → f__law_pick ds R Er → d__law_pick { nx := fun _ => R .none, rt := R } (startS 2 ds) Er := by
  intro ds R Er hl ⟨xs, e, hne, hlen, hr⟩
  have key : ∀ k : Int, 0 ≤ k → k < xs.length → ∃ x, atI xs k = some x ∧ R x := fun k h0 h1 => by
    obtain ⟨x, hx⟩ := at_of (xs := xs) h0 (by omega)
    exact ⟨x, atI_at h0 hx, hr x (List.mem_of_getElem? hx)⟩
  have hpos : 0 < (xs.length : Int) := by
    have := List.length_pos_iff.mpr hne
    omega
  rcases e with e | e
  · subst e
    show d__law_pick _ [some .src, some (.dat (.list xs))] Er
    simp only [d__law_pick, true_and, startD, startS, startN, dVar, dVarF, dC, dOp, dTru, truD, dTOp, dIsN, dNotN, dTIsN, dTNotN, dTAnd, dTOr, dTNot, dAnd, dOr, dNot, dIf, dChain, dTChain, dSl, dNoPart, dPart, dNil, dCons, dTup, dLst, dCall, dFn, dFnS, sNil, sSeq, sRet, sDrop, sIf, gN, gNil', gCons', gT, sAsg, sSet, sPar, sAug, sSetO, dSeq, dSrc0, dSrc1, sSrc0, sSrc1, dIsi, fAdd, fSub, fMul, fMod, fDiv, fLt, fLe, fGt, fGe, dI2, dB2, dI2c, fIsB, fNotB, isNonD, fLen, fMax2, fMin2, fInt, fListOf, fTupOf, List.getElem?_cons_zero, List.getElem?_cons_succ, List.set_cons_zero, List.set_cons_succ, List.length_cons, List.length_nil, Bool.not_true, Bool.not_false]
    refine ⟨_, rfl, hpos, by omega, fun k h0 h1 => ?_⟩
    obtain ⟨x, e, h⟩ := key k h0 h1
    simp only [fIx, e]
    exact h
  · subst e
    show d__law_pick _ [some .src, some (.dat (.tuple xs))] Er
    simp only [d__law_pick, true_and, startD, startS, startN, dVar, dVarF, dC, dOp, dTru, truD, dTOp, dIsN, dNotN, dTIsN, dTNotN, dTAnd, dTOr, dTNot, dAnd, dOr, dNot, dIf, dChain, dTChain, dSl, dNoPart, dPart, dNil, dCons, dTup, dLst, dCall, dFn, dFnS, sNil, sSeq, sRet, sDrop, sIf, gN, gNil', gCons', gT, sAsg, sSet, sPar, sAug, sSetO, dSeq, dSrc0, dSrc1, sSrc0, sSrc1, dIsi, fAdd, fSub, fMul, fMod, fDiv, fLt, fLe, fGt, fGe, dI2, dB2, dI2c, fIsB, fNotB, isNonD, fLen, fMax2, fMin2, fInt, fListOf, fTupOf, List.getElem?_cons_zero, List.getElem?_cons_succ, List.set_cons_zero, List.set_cons_succ, List.length_cons, List.length_nil, Bool.not_true, Bool.not_false]
    refine ⟨_, rfl, hpos, by omega, fun k h0 h1 => ?_⟩
    obtain ⟨x, e, h⟩ := key k h0 h1
    simp only [fIx, e]
    exact h
theorem mixed_go {R : PyData → Prop} {Er : Er'} {xs : List PyData} (hx : ∀ x ∈ xs, x.canLay0 = true ∧ x.depth ≤ 62) (hl : xs.length ≤ 10000) (hr : ∀ ys : List PyData, ys.length = xs.length → (∀ y ∈ ys, y ∈ xs) → R (.list ys)) :
    ∀ (n : Nat) (lot found : List PyData), lot.length < n → found.length + lot.length = xs.length → (∀ y ∈ lot, y ∈ xs) → (∀ y ∈ found, y ∈ xs) →
    whileGo (dTNeO 2 (dLst dNil)) (sApp 3 (dPop 2 (dFnS 0 (fun ds R Er => ds.length + 1 = 2 ∧ f__law_draw ds R Er) (dCons (dLenO 2) dNil)))) { nx := fun ρ => sRet (dVarF 3) { nx := fun _ => R .none, rt := R } ρ Er, rt := R } Er n
      [some .src, some (.dat (.list xs)), some (.own lot), some (.own found)]
  | 0, _, _, h, _, _, _ => by omega
  | n + 1, lot, found, h, hlen, h1, h2 => by
    unfold whileGo
    refine ⟨⟨lot, rfl⟩, by decide, ?_⟩
    have sh : SeqAt.shaped (.list lot) = true := shaped_list fun x hy => hx x (h1 x hy)
    have se : SeqAt.shaped (.list []) = true := by decide
    simp only [true_and, startD, startS, startN, dVar, dVarF, dC, dOp, dTru, truD, dTOp, dIsN, dNotN, dTIsN, dTNotN, dTAnd, dTOr, dTNot, dAnd, dOr, dNot, dIf, dChain, dTChain, dSl, dNoPart, dPart, dNil, dCons, dTup, dLst, dCall, dFn, dFnS, sNil, sSeq, sRet, sDrop, sIf, gN, gNil', gCons', gT, sAsg, sSet, sPar, sAug, sSetO, dSeq, dSrc0, dSrc1, sSrc0, sSrc1, dIsi, fAdd, fSub, fMul, fMod, fDiv, fLt, fLe, fGt, fGe, dI2, dB2, dI2c, fIsB, fNotB, isNonD, fLen, fMax2, fMin2, fInt, fListOf, fTupOf, List.getElem?_cons_zero, List.getElem?_cons_succ, List.set_cons_zero, List.set_cons_succ, List.length_cons, List.length_nil, Bool.not_true, Bool.not_false]
    refine ⟨sh, se, ?_⟩
    simp only [PyData.eqv, eqvAll_nil]
    cases lot with
    | nil =>
      exact hr found (by simpa using hlen) h2
    | cons a r =>
      simp only [List.isEmpty_cons, true_and, startD, startS, startN, dVar, dVarF, dC, dOp, dTru, truD, dTOp, dIsN, dNotN, dTIsN, dTNotN, dTAnd, dTOr, dTNot, dAnd, dOr, dNot, dIf, dChain, dTChain, dSl, dNoPart, dPart, dNil, dCons, dTup, dLst, dCall, dFn, dFnS, sNil, sSeq, sRet, sDrop, sIf, gN, gNil', gCons', gT, sAsg, sSet, sPar, sAug, sSetO, dSeq, dSrc0, dSrc1, sSrc0, sSrc1, dIsi, fAdd, fSub, fMul, fMod, fDiv, fLt, fLe, fGt, fGe, dI2, dB2, dI2c, fIsB, fNotB, isNonD, fLen, fMax2, fMin2, fInt, fListOf, fTupOf, List.getElem?_cons_zero, List.getElem?_cons_succ, List.set_cons_zero, List.set_cons_succ, List.length_cons, List.length_nil, Bool.not_true, Bool.not_false]
      refine ⟨⟨found, rfl⟩, ⟨a :: r, rfl⟩, ?_⟩
      simp only [dLenO, true_and, startD, startS, startN, dVar, dVarF, dC, dOp, dTru, truD, dTOp, dIsN, dNotN, dTIsN, dTNotN, dTAnd, dTOr, dTNot, dAnd, dOr, dNot, dIf, dChain, dTChain, dSl, dNoPart, dPart, dNil, dCons, dTup, dLst, dCall, dFn, dFnS, sNil, sSeq, sRet, sDrop, sIf, gN, gNil', gCons', gT, sAsg, sSet, sPar, sAug, sSetO, dSeq, dSrc0, dSrc1, sSrc0, sSrc1, dIsi, fAdd, fSub, fMul, fMod, fDiv, fLt, fLe, fGt, fGe, dI2, dB2, dI2c, fIsB, fNotB, isNonD, fLen, fMax2, fMin2, fInt, fListOf, fTupOf, List.getElem?_cons_zero, List.getElem?_cons_succ, List.set_cons_zero, List.set_cons_succ, List.length_cons, List.length_nil, Bool.not_true, Bool.not_false]
      refine ⟨_, rfl, by omega, by simp only [List.length_cons] at hlen; omega, fun k k0 k1 => ?_⟩
      simp only [List.length_cons] at hlen
      obtain ⟨z, hz⟩ := at_of (xs := a :: r) (i := k) k0 (by simp only [List.length_cons]; omega)
      refine ⟨k0, by omega, z, hz, ?_⟩
      refine ⟨by simp only [big]; omega, ?_⟩
      have hk : k.toNat < (a :: r).length := (List.getElem?_eq_some_iff.mp hz).1
      have e1 : ((a :: r).eraseIdx k.toNat).length = r.length := by rw [List.length_eraseIdx_of_lt hk]; rfl
      refine mixed_go hx hl hr n ((a :: r).eraseIdx k.toNat) (found ++ [z]) (by simp only [List.length_cons] at h; omega) (by rw [e1]; simp only [List.length_append, List.length_cons, List.length_nil]; omega)
        (fun y hy => h1 y (List.mem_of_mem_eraseIdx hy)) fun y hy => ?_
      rcases List.mem_append.mp hy with hy | hy
      · exact h2 y hy
      · rw [List.mem_singleton] at hy
        subst hy
        exact h1 y (List.mem_of_getElem? hz)
theorem h__law_mixed : ∀ ds R Er, ds.length + 1 = 2 → f__law_mixed ds R Er → d__law_mixed { nx := fun _ => R .none, rt := R } (startS 4 ds) Er := by
  intro ds R Er hl ⟨xs, e, hx, hlen, hr⟩
  subst e
  show d__law_mixed _ [some .src, some (.dat (.list xs)), none, none] Er
  simp only [d__law_mixed, sParLN, sWhile, true_and, startD, startS, startN, dVar, dVarF, dC, dOp, dTru, truD, dTOp, dIsN, dNotN, dTIsN, dTNotN, dTAnd, dTOr, dTNot, dAnd, dOr, dNot, dIf, dChain, dTChain, dSl, dNoPart, dPart, dNil, dCons, dTup, dLst, dCall, dFn, dFnS, sNil, sSeq, sRet, sDrop, sIf, gN, gNil', gCons', gT, sAsg, sSet, sPar, sAug, sSetO, dSeq, dSrc0, dSrc1, sSrc0, sSrc1, dIsi, fAdd, fSub, fMul, fMod, fDiv, fLt, fLe, fGt, fGe, dI2, dB2, dI2c, fIsB, fNotB, isNonD, fLen, fMax2, fMin2, fInt, fListOf, fTupOf, List.getElem?_cons_zero, List.getElem?_cons_succ, List.set_cons_zero, List.set_cons_succ, List.length_cons, List.length_nil, Bool.not_true, Bool.not_false]
  exact ⟨xs.length + 1, mixed_go hx hlen hr _ xs [] (by omega) (by simp) (fun y h => h) fun y h => by cases h⟩
theorem h__law_life : ∀ ds R Er, ds.length + 1 = 4 → f__law_life ds R Er → d__law_life { nx := fun _ => R .none, rt := R } (startS 6 ds) Er := by
  intro ds R Er hl ⟨lo, hi, s, e, h0, h1, hr⟩
  subst e
  show d__law_life _ [some .src, some (.dat (.int lo)), some (.dat (.int hi)), some (.dat (.bool s)), none, none] Er
  simp only [d__law_life, true_and, startD, startS, startN, dVar, dVarF, dC, dOp, dTru, truD, dTOp, dIsN, dNotN, dTIsN, dTNotN, dTAnd, dTOr, dTNot, dAnd, dOr, dNot, dIf, dChain, dTChain, dSl, dNoPart, dPart, dNil, dCons, dTup, dLst, dCall, dFn, dFnS, sNil, sSeq, sRet, sDrop, sIf, gN, gNil', gCons', gT, sAsg, sSet, sPar, sAug, sSetO, dSeq, dSrc0, dSrc1, sSrc0, sSrc1, dIsi, fAdd, fSub, fMul, fMod, fDiv, fLt, fLe, fGt, fGe, dI2, dB2, dI2c, fIsB, fNotB, isNonD, fLen, fMax2, fMin2, fInt, fListOf, fTupOf, List.getElem?_cons_zero, List.getElem?_cons_succ, List.set_cons_zero, List.set_cons_succ, List.length_cons, List.length_nil, Bool.not_true, Bool.not_false]
  refine ⟨_, rfl, by omega, by omega, fun k k0 k1 => ⟨_, rfl, by omega, by omega, fun j j0 j1 => ?_⟩⟩
  cases s with
  | false => exact ⟨by decide, hr _ _ (by omega) (by omega) (by omega)⟩
  | true =>
    simp only [minI]
    refine ⟨_, rfl, by omega, by omega, fun a a0 a1 => ⟨2, rfl, by omega, by omega, fun b b0 b1 => ⟨by decide, ?_⟩⟩⟩
    rw [maxI]
    exact hr _ _ (by omega) (by omega) (by omega)
theorem sIx_in {n d : Nat} {k : Nat} (h : k ≤ n) : HT.sIx n d (some (k : Int)) = k := by
  have : HT.sIx n d (some (k : Int)) = min k n := by
    show (if (k : Int) < 0 then ((k : Int) + (n : Int)).toNat else min (k : Int).toNat n) = min k n
    rw [if_neg (by omega), Int.toNat_natCast]
  omega
theorem cut_to {xs : List PyData} {k : Nat} (h : k ≤ xs.length) : cutD xs none (some (k : Int)) = xs.take k := by
  unfold cutD
  rw [sIx_in h]
  show (xs.drop 0).take (k - 0) = _
  simp
theorem cut_from {xs : List PyData} {k : Nat} (h : k ≤ xs.length) : cutD xs (some (k : Int)) none = xs.drop k := by
  unfold cutD
  rw [sIx_in h]
  show (xs.drop k).take (xs.length - k) = _
  exact List.take_of_length_le (by simp)
theorem cut_past {xs : List PyData} {k : Nat} (h : xs.length ≤ k) : cutD xs (some (k : Int)) none = xs.drop k := by
  have e : HT.sIx xs.length 0 (some (k : Int)) = xs.length := by
    show (if (k : Int) < 0 then ((k : Int) + (xs.length : Int)).toNat else min (k : Int).toNat xs.length) = _
    rw [if_neg (by omega), Int.toNat_natCast]; omega
  unfold cutD
  rw [e, List.drop_of_length_le (Nat.le_refl _), List.drop_of_length_le h, List.take_nil]
theorem h__law_put : ∀ ds R Er, ds.length = 3 → f__law_put ds R Er → d__law_put { nx := fun _ => R .none, rt := R } (startD 3 ds) Er := by
  intro ds R Er hl ⟨xs, k, t, e, hk, hlen, hr⟩
  subst e
  show d__law_put _ [some (.dat (.tuple xs)), some (.dat (.int (k : Int))), some (.dat t)] Er
  have e1 : fSl (.tuple xs) none (some (k : Int)) = some (.tuple (xs.take k)) := by simp only [fSl, cut_to hk]
  have e2 : fSl (.tuple xs) (some ((k : Int) + 1)) none = some (.tuple (xs.drop (k + 1))) := by
    have e : ((k : Int) + 1) = ((k + 1 : Nat) : Int) := by omega
    rw [e]
    rcases Nat.lt_or_ge k xs.length with h | h
    · simp only [fSl, cut_from (show k + 1 ≤ xs.length by omega)]
    · simp only [fSl, cut_past (show xs.length ≤ k + 1 by omega)]
  simp only [d__law_put, e1, e2, true_and, startD, startS, startN, dVar, dVarF, dC, dOp, dTru, truD, dTOp, dIsN, dNotN, dTIsN, dTNotN, dTAnd, dTOr, dTNot, dAnd, dOr, dNot, dIf, dChain, dTChain, dSl, dNoPart, dPart, dNil, dCons, dTup, dLst, dCall, dFn, dFnS, sNil, sSeq, sRet, sDrop, sIf, gN, gNil', gCons', gT, sAsg, sSet, sPar, sAug, sSetO, dSeq, dSrc0, dSrc1, sSrc0, sSrc1, dIsi, fAdd, fSub, fMul, fMod, fDiv, fLt, fLe, fGt, fGe, dI2, dB2, dI2c, fIsB, fNotB, isNonD, fLen, fMax2, fMin2, fInt, fListOf, fTupOf, List.getElem?_cons_zero, List.getElem?_cons_succ, List.set_cons_zero, List.set_cons_succ, List.length_cons, List.length_nil, Bool.not_true, Bool.not_false]
  refine ⟨by decide, ?_⟩
  have l1 : (xs.take k).length ≤ 1000 := by rw [List.length_take]; omega
  have l2 : (xs.drop (k + 1)).length ≤ 1000 := by rw [List.length_drop]; omega
  rw [if_pos (show (xs.take k).length + (0 + 1) ≤ big by simp only [big]; omega)]
  simp only [List.length_append, List.length_cons, List.length_nil]
  rw [if_pos (by simp only [big]; omega)]
  exact hr
theorem shown_bools : ∀ a b : Bool, decide ((PyData.bool a).shown = (PyData.bool b).shown) = decide (a = b) := by
  decide +kernel
theorem h__law_same : ∀ ds R Er, ds.length = 2 → f__law_same ds R Er → d__law_same { nx := fun _ => R .none, rt := R } (startD 2 ds) Er := by
  intro ds R Er hl ⟨a, b, e, hr⟩
  subst e
  show d__law_same _ [some (.dat (.bool a)), some (.dat (.bool b))] Er
  have e1 : ∀ b : Bool, fRepr [.bool b] = some (.str (PyData.bool b).shown) := fun b => by cases b <;> rfl
  simp only [d__law_same, e1, fEq, true_and, startD, startS, startN, dVar, dVarF, dC, dOp, dTru, truD, dTOp, dIsN, dNotN, dTIsN, dTNotN, dTAnd, dTOr, dTNot, dAnd, dOr, dNot, dIf, dChain, dTChain, dSl, dNoPart, dPart, dNil, dCons, dTup, dLst, dCall, dFn, dFnS, sNil, sSeq, sRet, sDrop, sIf, gN, gNil', gCons', gT, sAsg, sSet, sPar, sAug, sSetO, dSeq, dSrc0, dSrc1, sSrc0, sSrc1, dIsi, fAdd, fSub, fMul, fMod, fDiv, fLt, fLe, fGt, fGe, dI2, dB2, dI2c, fIsB, fNotB, isNonD, fLen, fMax2, fMin2, fInt, fListOf, fTupOf, List.getElem?_cons_zero, List.getElem?_cons_succ, List.set_cons_zero, List.set_cons_succ, List.length_cons, List.length_nil, Bool.not_true, Bool.not_false]
  rw [shown_bools]
  exact hr
end DD

namespace DD
open PySem L2
/-! ### what repr takes -/
def Gd (k m : Nat) (d : PyData) : Prop := d.showable = true ∧ d.depth ≤ k ∧ sz d ≤ m ∧ d.hasDict = false
theorem Gd.mono {k m k' m' : Nat} {d : PyData} (h : Gd k m d) (h1 : k ≤ k') (h2 : m ≤ m') : Gd k' m' d := ⟨h.1, Nat.le_trans h.2.1 h1, Nat.le_trans h.2.2.1 h2, h.2.2.2⟩
theorem gd_all {k m : Nat} : ∀ {xs : List PyData}, (∀ x ∈ xs, Gd k m x) → PyData.showableAll xs = true ∧ PyData.depthAll xs ≤ k ∧ szA xs ≤ xs.length * (m + 2) ∧ PyData.hasDictAll xs = false
  | [], _ => ⟨by simp only [PyData.showableAll], by simp only [PyData.depthAll]; omega, by simp only [szA]; omega, by simp only [PyData.hasDictAll]⟩
  | x :: r, h => by
    obtain ⟨a1, a2, a3, a4⟩ := h x List.mem_cons_self
    obtain ⟨b1, b2, b3, b4⟩ := gd_all fun y hy => h y (List.mem_cons_of_mem _ hy)
    refine ⟨by simp only [PyData.showableAll, a1, b1, Bool.and_self], by simp only [PyData.depthAll]; omega, ?_, by simp only [PyData.hasDictAll, a4, b4, Bool.or_self]⟩
    simp only [szA, List.length_cons, Nat.succ_mul]
    omega
theorem gd_list {k m n : Nat} {xs : List PyData} (h : ∀ x ∈ xs, Gd k m x) (hl : xs.length ≤ n) : Gd (k + 1) (n * (m + 2) + 10) (.list xs) := by
  obtain ⟨a1, a2, a3, a4⟩ := gd_all h
  have := Nat.mul_le_mul_right (m + 2) hl
  exact ⟨by simpa only [PyData.showable] using a1, by simp only [PyData.depth]; omega, by simp only [sz]; omega, by simpa only [PyData.hasDict] using a4⟩
theorem gd_tuple {k m n : Nat} {xs : List PyData} (h : ∀ x ∈ xs, Gd k m x) (hl : xs.length ≤ n) : Gd (k + 1) (n * (m + 2) + 10) (.tuple xs) := by
  obtain ⟨a1, a2, a3, a4⟩ := gd_all h
  have := Nat.mul_le_mul_right (m + 2) hl
  exact ⟨by simpa only [PyData.showable] using a1, by simp only [PyData.depth]; omega, by simp only [sz]; omega, by simpa only [PyData.hasDict] using a4⟩
theorem gd_rOk {d : PyData} (h : Gd 60 16777216 d) : rOk d = true := by
  obtain ⟨a1, a2, a3, a4⟩ := h
  simp only [rOk, a1, a4, decide_eq_true a2, decide_eq_true a3, Bool.and_self, Bool.not_false]
theorem gd_leaf {d : PyData} (h : leafD d = true) : Gd 0 2000 d := by
  cases d with
  | none => exact ⟨rfl, by decide, by decide, rfl⟩
  | bool b => exact ⟨rfl, by simp only [PyData.depth]; omega, by simp only [sz]; omega, rfl⟩
  | int i =>
    simp only [leafD, Bool.and_eq_true, decide_eq_true_eq] at h
    refine ⟨?_, by simp only [PyData.depth]; omega, by simp only [sz]; omega, rfl⟩
    simp only [PyData.showable, decide_eq_true_eq]
    by_cases z : i.natAbs = 0
    · rw [z]; decide
    · refine Nat.lt_trans ((Nat.log2_lt z (k := 200)).mpr ?_) (by decide)
      have e : (10 : Int) ^ 60 < 2 ^ 200 := by decide +kernel
      have e2 : ((2 ^ 200 : Nat) : Int) = 2 ^ 200 := by norm_cast
      generalize (2 ^ 200 : Nat) = k at e2 ⊢
      rw [← e2] at e
      omega
  | str x =>
    simp only [leafD, Bool.and_eq_true, decide_eq_true_eq] at h
    refine ⟨by simp only [PyData.showable], by simp only [PyData.depth]; omega, ?_, rfl⟩
    have e : (x.cps.toList.all fun c => decide (c < 4294967296)) = true := by
      rw [List.all_eq_true] at h ⊢
      intro c hc
      have := of_decide_eq_true (h.2 c hc)
      exact decide_eq_true (by omega)
    simp only [sz, e, if_true]
    omega
  | _ => cases h
theorem gd_lv1 {d : PyData} (h : lv1 d = true) : Gd 1 16026 d := by
  have k : ∀ {d : PyData}, leafD d = true → Gd 1 16026 d := fun h => (gd_leaf h).mono (by omega) (by omega)
  cases d with
  | list xs =>
    simp only [lv1, Bool.and_eq_true, decide_eq_true_eq, List.all_eq_true] at h
    exact gd_list (k := 0) (m := 2000) (n := 8) (fun x hx => gd_leaf (h.2 x hx)) h.1
  | tuple xs =>
    simp only [lv1, Bool.and_eq_true, decide_eq_true_eq, List.all_eq_true] at h
    exact gd_tuple (k := 0) (m := 2000) (n := 8) (fun x hx => gd_leaf (h.2 x hx)) h.1
  | none => exact k h
  | bool b => exact k h
  | int i => exact k h
  | str x => exact k h
  | dict kvs => cases h
theorem gd_lv2 {d : PyData} (h : lv2 d = true) : Gd 2 641130 d := by
  have k : ∀ {d : PyData}, leafD d = true → Gd 2 641130 d := fun h => (gd_leaf h).mono (by omega) (by omega)
  cases d with
  | list xs =>
    simp only [lv2, Bool.and_eq_true, decide_eq_true_eq, List.all_eq_true] at h
    exact gd_list (k := 1) (m := 16026) (n := 40) (fun x hx => gd_lv1 (h.2 x hx)) h.1
  | tuple xs =>
    simp only [lv2, Bool.and_eq_true, decide_eq_true_eq, List.all_eq_true] at h
    exact gd_tuple (k := 1) (m := 16026) (n := 40) (fun x hx => gd_lv1 (h.2 x hx)) h.1
  | none => exact k h
  | bool b => exact k h
  | int i => exact k h
  | str x => exact k h
  | dict kvs => cases h
theorem gd_lv3 {d : PyData} (h : lv3 d = true) : Gd 3 5129066 d := by
  have k : ∀ {d : PyData}, leafD d = true → Gd 3 5129066 d := fun h => (gd_leaf h).mono (by omega) (by omega)
  cases d with
  | list xs =>
    simp only [lv3, Bool.and_eq_true, decide_eq_true_eq, List.all_eq_true] at h
    exact gd_list (k := 2) (m := 641130) (n := 8) (fun x hx => gd_lv2 (h.2 x hx)) h.1
  | tuple xs =>
    simp only [lv3, Bool.and_eq_true, decide_eq_true_eq, List.all_eq_true] at h
    exact gd_tuple (k := 2) (m := 641130) (n := 8) (fun x hx => gd_lv2 (h.2 x hx)) h.1
  | none => exact k h
  | bool b => exact k h
  | int i => exact k h
  | str x => exact k h
  | dict kvs => cases h
theorem fRepr_lv3 {d : PyData} (h : lv3 d = true ∨ d = .dict []) : fRepr [d] = some (.str d.shown) := by
  rcases h with h | rfl
  · simp only [fRepr, gd_rOk ((gd_lv3 h).mono (by omega) (by omega)), if_true]
  · rfl
theorem lv_leaf {d : PyData} (h : leafD d = true) : lv1 d = true ∧ lv2 d = true ∧ lv3 d = true := by
  cases d <;> first | exact ⟨h, h, h⟩ | cases h
theorem lv12 {d : PyData} (h : lv1 d = true) : lv2 d = true := by
  cases d with
  | list xs =>
    simp only [lv1, lv2, Bool.and_eq_true, decide_eq_true_eq, List.all_eq_true] at h ⊢
    exact ⟨by omega, fun x hx => (lv_leaf (h.2 x hx)).1⟩
  | tuple xs =>
    simp only [lv1, lv2, Bool.and_eq_true, decide_eq_true_eq, List.all_eq_true] at h ⊢
    exact ⟨by omega, fun x hx => (lv_leaf (h.2 x hx)).1⟩
  | _ => exact h
theorem leaf_int {i : Int} (h0 : -1000 ≤ i) (h1 : i ≤ 1000) : leafD (.int i) = true := by
  have e : (10 : Int) ^ 60 = 1000000000000000000000000000000000000000000000000000000000000 := by decide +kernel
  simp only [leafD, Bool.and_eq_true, decide_eq_true_eq, e]
  omega
/-! ### the source -/
theorem h__law_source : ∀ ns j, ok__law_source ns j → d__law_source (startN 5 ns j) (fun ds => ∃ x y : Int, ds = [.int x, .int y] ∧ 0 ≤ x ∧ 0 ≤ y ∧ y < 2147483648) noEr := by
  intro ns j ⟨hb, h0, h3⟩
  show d__law_source [some (.scr ns), some (.dat (.int j)), none, none, none] _ _
  simp only [d__law_source, nSeq, sFor, dScr, true_and, startD, startS, startN, dVar, dVarF, dC, dOp, dTru, truD, dTOp, dIsN, dNotN, dTIsN, dTNotN, dTAnd, dTOr, dTNot, dAnd, dOr, dNot, dIf, dChain, dTChain, dSl, dNoPart, dPart, dNil, dCons, dTup, dLst, dCall, dFn, dFnS, sNil, sSeq, sRet, sDrop, sIf, gN, gNil', gCons', gT, sAsg, sSet, sPar, sAug, sSetO, dSeq, dSrc0, dSrc1, sSrc0, sSrc1, dIsi, fAdd, fSub, fMul, fMod, fDiv, fLt, fLe, fGt, fGe, dI2, dB2, dI2c, fIsB, fNotB, isNonD, fLen, fMax2, fMin2, fInt, fListOf, fTupOf, List.getElem?_cons_zero, List.getElem?_cons_succ, List.set_cons_zero, List.set_cons_succ, List.length_cons, List.length_nil, Bool.not_true, Bool.not_false]
  refine for_ind (fun r ρ => ∃ (acc : Int) (x : Option D), ρ = [some (.scr ns), some (.dat (.int j)), some (.dat (.int acc)), x, none] ∧ 0 ≤ acc ∧ acc ≤ 2147483563 ∧ ∀ d ∈ r, ∃ n : Int, d = .int n ∧ Builtin.Int.intBits n ≤ 1048576) ?_ ?_ _ _ ?_
  · intro ρ ⟨acc, x, e, a0, a1, _⟩
    subst e
    have p18 : fPow (.int 10) (.int 18) = some (.int 1000000000000000000) := by rfl
    simp only [dLenO, dScrIx, nRet, p18, true_and, startD, startS, startN, dVar, dVarF, dC, dOp, dTru, truD, dTOp, dIsN, dNotN, dTIsN, dTNotN, dTAnd, dTOr, dTNot, dAnd, dOr, dNot, dIf, dChain, dTChain, dSl, dNoPart, dPart, dNil, dCons, dTup, dLst, dCall, dFn, dFnS, sNil, sSeq, sRet, sDrop, sIf, gN, gNil', gCons', gT, sAsg, sSet, sPar, sAug, sSetO, dSeq, dSrc0, dSrc1, sSrc0, sSrc1, dIsi, fAdd, fSub, fMul, fMod, fDiv, fLt, fLe, fGt, fGe, dI2, dB2, dI2c, fIsB, fNotB, isNonD, fLen, fMax2, fMin2, fInt, fListOf, fTupOf, List.getElem?_cons_zero, List.getElem?_cons_succ, List.set_cons_zero, List.set_cons_succ, List.length_cons, List.length_nil, Bool.not_true, Bool.not_false]
    by_cases hj : j < (ns.length : Int)
    · simp only [decide_eq_true hj]
      obtain ⟨n, hn⟩ := at_of (xs := ns) (i := j) h0 (by omega)
      refine ⟨⟨ns, rfl⟩, n, atI_at h0 hn, ?_⟩
      by_cases h18 : (1000000000000000000 : Int) ≤ n
      · simp only [decide_eq_true h18]
        refine ⟨⟨ns, rfl⟩, n, atI_at h0 hn, ?_⟩
        exact ⟨by decide, _, _, rfl, by omega, a0, by omega⟩
      · simp only [decide_eq_false h18]
        exact ⟨by decide, _, _, rfl, by omega, a0, by omega⟩
    · simp only [decide_eq_false hj]
      exact ⟨by decide, _, _, rfl, by omega, a0, by omega⟩
  · intro d r ρ ⟨acc, x, e, a0, a1, hr⟩ ih
    subst e
    obtain ⟨n, rfl, hn⟩ := hr d List.mem_cons_self
    have hp : powOk (acc * 50021 + n) 3 = true := by
      unfold powOk
      have b : Builtin.Int.intBits (acc * 50021 + n) ≤ 1048577 := bits_add hn (by omega) (by have h48 : (2 : Nat) ^ 48 = 281474976710656 := (by decide); omega)
      simp only [Bool.and_eq_true, decide_eq_true_eq]
      exact ⟨by omega, by have h27 : (2 : Int) ^ 27 = 134217728 := (by decide); omega⟩
    simp only [forGo, fPow, mulOk_r acc (show (0 : Int) ≤ 50021 by omega) (by omega), hp, if_true, decide_eq_true (show (0 : Int) < 2147483563 by omega), true_and, startD, startS, startN, dVar, dVarF, dC, dOp, dTru, truD, dTOp, dIsN, dNotN, dTIsN, dTNotN, dTAnd, dTOr, dTNot, dAnd, dOr, dNot, dIf, dChain, dTChain, dSl, dNoPart, dPart, dNil, dCons, dTup, dLst, dCall, dFn, dFnS, sNil, sSeq, sRet, sDrop, sIf, gN, gNil', gCons', gT, sAsg, sSet, sPar, sAug, sSetO, dSeq, dSrc0, dSrc1, sSrc0, sSrc1, dIsi, fAdd, fSub, fMul, fMod, fDiv, fLt, fLe, fGt, fGe, dI2, dB2, dI2c, fIsB, fNotB, isNonD, fLen, fMax2, fMin2, fInt, fListOf, fTupOf, List.getElem?_cons_zero, List.getElem?_cons_succ, List.set_cons_zero, List.set_cons_succ, List.length_cons, List.length_nil, Bool.not_true, Bool.not_false]
    have m0 := Int.emod_nonneg ((acc * 50021 + n) ^ (3 : Int).toNat) (show (2147483563 : Int) ≠ 0 by omega)
    have m1 := Int.emod_lt_of_pos ((acc * 50021 + n) ^ (3 : Int).toNat) (show (0 : Int) < 2147483563 by omega)
    exact ih _ ⟨_, _, rfl, by omega, by omega, fun y hy => hr y (List.mem_cons_of_mem _ hy)⟩
  · exact ⟨101 + j, none, rfl, by omega, by omega, fun d hd => by
      obtain ⟨n, hn, rfl⟩ := List.mem_map.mp hd
      exact ⟨n, rfl, hb n hn⟩⟩
end DD

namespace DD
open PySem L2
theorem rangeD_len (lo : Int) (n : Nat) : (rangeD lo n).length = n := by simp [rangeD]
theorem rangeD_mem {n : Nat} {d : PyData} (h : d ∈ rangeD 0 n) : ∃ i : Nat, d = .int (i : Int) ∧ i < n := by
  obtain ⟨i, hi, rfl⟩ := List.mem_map.mp h
  exact ⟨i, by rw [Int.zero_add], List.mem_range.mp hi⟩
theorem h__law_ties : ∀ ds R Er, ds.length + 1 = 5 → f__law_ties ds R Er → d__law_ties { nx := fun _ => R .none, rt := R } (startS 13 ds) Er := by
  intro ds R Er hl ⟨pts, prs, many, g, e, hne, hpl, hp, hpt, m0, m1, hr⟩
  subst e
  show d__law_ties _ [some .src, some (.dat (.list (pts.map lifeD))), some (.dat (.list prs)), some (.dat (.int many)), some (.dat (.bool g)), none, none, none, none, none, none, none, none] Er
  simp only [d__law_ties, sFor, dRange1, true_and, startD, startS, startN, dVar, dVarF, dC, dOp, dTru, truD, dTOp, dIsN, dNotN, dTIsN, dTNotN, dTAnd, dTOr, dTNot, dAnd, dOr, dNot, dIf, dChain, dTChain, dSl, dNoPart, dPart, dNil, dCons, dTup, dLst, dCall, dFn, dFnS, sNil, sSeq, sRet, sDrop, sIf, gN, gNil', gCons', gT, sAsg, sSet, sPar, sAug, sSetO, dSeq, dSrc0, dSrc1, sSrc0, sSrc1, dIsi, fAdd, fSub, fMul, fMod, fDiv, fLt, fLe, fGt, fGe, dI2, dB2, dI2c, fIsB, fNotB, isNonD, fLen, fMax2, fMin2, fInt, fListOf, fTupOf, List.getElem?_cons_zero, List.getElem?_cons_succ, List.set_cons_zero, List.set_cons_succ, List.length_cons, List.length_nil, Bool.not_true, Bool.not_false]
  refine ⟨by decide, by omega, by omega, ?_⟩
  refine for_ind (fun r ρ => ∃ (found : List PyData) (a6 a7 a8 a9 a10 a11 a12 : Option D), ρ = [some .src, some (.dat (.list (pts.map lifeD))), some (.dat (.list prs)), some (.dat (.int many)), some (.dat (.bool g)), some (.own found), a6, a7, a8, a9, a10, a11, a12] ∧
    (found.length : Int) + r.length ≤ many ∧ ∀ t ∈ found, TieOk pts t) ?_ ?_ _ _ ?_
  · rintro ρ ⟨found, a6, a7, a8, a9, a10, a11, a12, rfl, h1, h2⟩
    exact hr found (by simpa using h1) h2
  · rintro d r ρ ⟨found, a6, a7, a8, a9, a10, a11, a12, rfl, h1, h2⟩ ih
    simp only [List.length_cons] at h1
    simp only [forGo, true_and, startD, startS, startN, dVar, dVarF, dC, dOp, dTru, truD, dTOp, dIsN, dNotN, dTIsN, dTNotN, dTAnd, dTOr, dTNot, dAnd, dOr, dNot, dIf, dChain, dTChain, dSl, dNoPart, dPart, dNil, dCons, dTup, dLst, dCall, dFn, dFnS, sNil, sSeq, sRet, sDrop, sIf, gN, gNil', gCons', gT, sAsg, sSet, sPar, sAug, sSetO, dSeq, dSrc0, dSrc1, sSrc0, sSrc1, dIsi, fAdd, fSub, fMul, fMod, fDiv, fLt, fLe, fGt, fGe, dI2, dB2, dI2c, fIsB, fNotB, isNonD, fLen, fMax2, fMin2, fInt, fListOf, fTupOf, List.getElem?_cons_zero, List.getElem?_cons_succ, List.set_cons_zero, List.set_cons_succ, List.length_cons, List.length_nil, Bool.not_true, Bool.not_false]
    refine ⟨prs, .inl rfl, hne, hpl, fun x hx => ?_⟩
    obtain ⟨i, j, rfl, hij, hj⟩ := hp x hx
    obtain ⟨x, ex⟩ : ∃ x, pts[i]? = some x := ⟨_, List.getElem?_eq_getElem (show i < pts.length by omega)⟩
    obtain ⟨y, ey⟩ : ∃ y, pts[j]? = some y := ⟨_, List.getElem?_eq_getElem hj⟩
    have ax : atI (pts.map lifeD) (i : Int) = some (lifeD x) := atI_map (by omega) (by simpa using ex)
    have ay : atI (pts.map lifeD) (j : Int) = some (lifeD y) := atI_map (by omega) (by simpa using ey)
    have bx := hpt x (List.mem_of_getElem? ex)
    have by' := hpt y (List.mem_of_getElem? ey)
    simp only [pairD, fIx, ax, ay, lifeD, at0, at1, maxI, minI, true_and, startD, startS, startN, dVar, dVarF, dC, dOp, dTru, truD, dTOp, dIsN, dNotN, dTIsN, dTNotN, dTAnd, dTOr, dTNot, dAnd, dOr, dNot, dIf, dChain, dTChain, dSl, dNoPart, dPart, dNil, dCons, dTup, dLst, dCall, dFn, dFnS, sNil, sSeq, sRet, sDrop, sIf, gN, gNil', gCons', gT, sAsg, sSet, sPar, sAug, sSetO, dSeq, dSrc0, dSrc1, sSrc0, sSrc1, dIsi, fAdd, fSub, fMul, fMod, fDiv, fLt, fLe, fGt, fGe, dI2, dB2, dI2c, fIsB, fNotB, isNonD, fLen, fMax2, fMin2, fInt, fListOf, fTupOf, List.getElem?_cons_zero, List.getElem?_cons_succ, List.set_cons_zero, List.set_cons_succ, List.length_cons, List.length_nil, Bool.not_true, Bool.not_false]
    by_cases hle : max x.1 y.1 ≤ min x.2 y.2
    · simp only [decide_eq_true hle]
      refine ⟨3, rfl, by omega, by omega, fun k k0 k1 => ?_⟩
      simp only [fEq]
      refine ⟨_, _, _, rfl, hle, by omega, fun a b a0 ab b1 => ?_⟩
      simp only [sApp, lifeD, true_and, startD, startS, startN, dVar, dVarF, dC, dOp, dTru, truD, dTOp, dIsN, dNotN, dTIsN, dTNotN, dTAnd, dTOr, dTNot, dAnd, dOr, dNot, dIf, dChain, dTChain, dSl, dNoPart, dPart, dNil, dCons, dTup, dLst, dCall, dFn, dFnS, sNil, sSeq, sRet, sDrop, sIf, gN, gNil', gCons', gT, sAsg, sSet, sPar, sAug, sSetO, dSeq, dSrc0, dSrc1, sSrc0, sSrc1, dIsi, fAdd, fSub, fMul, fMod, fDiv, fLt, fLe, fGt, fGe, dI2, dB2, dI2c, fIsB, fNotB, isNonD, fLen, fMax2, fMin2, fInt, fListOf, fTupOf, List.getElem?_cons_zero, List.getElem?_cons_succ, List.set_cons_zero, List.set_cons_succ, List.length_cons, List.length_nil, Bool.not_true, Bool.not_false]
      refine ⟨⟨found, rfl⟩, ?_⟩
      have fin : ∀ c : Int, b ≤ c → c ≤ min x.2 y.2 → TieOk pts (.tuple [.int (i : Int), .int (j : Int), .int a, .int c]) := fun c h0 h1 => ⟨i, j, x, y, a, c, rfl, hij, ex, ey, a0, by omega, h1⟩
      cases g with
      | true =>
        refine ⟨by decide, by simp only [big]; omega, ?_⟩
        refine ih _ ⟨_, _, _, _, _, _, _, _, rfl, by simp only [List.length_append, List.length_cons, List.length_nil]; omega, fun t ht => ?_⟩
        rcases List.mem_append.mp ht with ht | ht
        · exact h2 t ht
        · rw [List.mem_singleton] at ht
          subst ht
          exact fin _ b1 (by omega)
      | false =>
        refine ⟨by decide, by simp only [big]; omega, ?_⟩
        refine ih _ ⟨_, _, _, _, _, _, _, _, rfl, by simp only [List.length_append, List.length_cons, List.length_nil]; omega, fun t ht => ?_⟩
        rcases List.mem_append.mp ht with ht | ht
        · exact h2 t ht
        · rw [List.mem_singleton] at ht
          subst ht
          exact fin _ (by omega) b1
    · simp only [decide_eq_false hle]
      exact ih _ ⟨found, _, _, _, _, _, _, _, rfl, by omega, h2⟩
  · exact ⟨[], none, none, none, none, none, none, none, rfl, by rw [rangeD_len]; simp only [List.length_nil]; omega, fun t h => by cases h⟩
theorem cut_mem {xs : List PyData} {lo hi : Option Int} {x : PyData} (h : x ∈ cutD xs lo hi) : x ∈ xs := List.mem_of_mem_drop (List.mem_of_mem_take h)
theorem cut_len {xs : List PyData} {lo hi : Option Int} : (cutD xs lo hi).length ≤ xs.length := by
  unfold cutD
  rw [List.length_take, List.length_drop]
  omega
theorem cut_ne {xs : List PyData} {k : Int} (h : xs ≠ []) (hk : 0 < k) : cutD xs none (some k) ≠ [] := by
  have hp := List.length_pos_iff.mpr h
  intro e
  have el : (cutD xs none (some k)).length = 0 := by rw [e]; rfl
  have e2 : HT.sIx xs.length xs.length (some k) = min k.toNat xs.length := by
    show (if k < 0 then (k + (xs.length : Int)).toNat else min k.toNat xs.length) = _
    rw [if_neg (by omega)]
  have e3 : HT.sIx xs.length 0 none = 0 := rfl
  unfold cutD at el
  rw [e2, e3, List.length_take, List.length_drop] at el
  omega
theorem h__law_net : ∀ ds R Er, ds.length + 1 = 4 → f__law_net ds R Er → d__law_net { nx := fun _ => R .none, rt := R } (startS 13 ds) Er := by
  intro ds R Er hl ⟨most, days, g, e, m0, m1, d0, d1, hr⟩
  subst e
  show d__law_net _ [some .src, some (.dat (.int most)), some (.dat (.int days)), some (.dat (.bool g)), none, none, none, none, none, none, none, none, none] Er
  simp only [d__law_net, dLc, dRange1, true_and, startD, startS, startN, dVar, dVarF, dC, dOp, dTru, truD, dTOp, dIsN, dNotN, dTIsN, dTNotN, dTAnd, dTOr, dTNot, dAnd, dOr, dNot, dIf, dChain, dTChain, dSl, dNoPart, dPart, dNil, dCons, dTup, dLst, dCall, dFn, dFnS, sNil, sSeq, sRet, sDrop, sIf, gN, gNil', gCons', gT, sAsg, sSet, sPar, sAug, sSetO, dSeq, dSrc0, dSrc1, sSrc0, sSrc1, dIsi, fAdd, fSub, fMul, fMod, fDiv, fLt, fLe, fGt, fGe, dI2, dB2, dI2c, fIsB, fNotB, isNonD, fLen, fMax2, fMin2, fInt, fListOf, fTupOf, List.getElem?_cons_zero, List.getElem?_cons_succ, List.set_cons_zero, List.set_cons_succ, List.length_cons, List.length_nil, Bool.not_true, Bool.not_false]
  refine ⟨days, rfl, by omega, by omega, fun l l0 l1 => ⟨3, rfl, by omega, by omega, fun kd k0 k1 => ⟨by decide, ?_⟩⟩⟩
  refine ⟨most, rfl, by omega, by omega, fun mk c0 c1 => ?_⟩
  simp only [maxI]
  have hcnt : (1 + max mk kd).toNat ≤ 7 := by omega
  have hcnt1 : 1 ≤ (1 + max mk kd).toNat := by omega
  refine ⟨by omega, by omega, ?_⟩
  generalize (1 + max mk kd).toNat = cnt at hcnt hcnt1
  simp only [wipeD, List.set_cons_succ, List.set_cons_zero]
  refine lc_ind (fun r acc ρ => ρ = [some .src, some (.dat (.int most)), some (.dat (.int days)), some (.dat (.bool g)), some (.dat (.int l)), some (.dat (.int kd)), none, none, none, none, none, none, none] ∧
    ∃ pts : List (Int × Int), acc = pts.map lifeD ∧ (∀ x ∈ pts, 0 ≤ x.1 ∧ x.1 ≤ x.2 ∧ x.2 ≤ l) ∧ pts.length + r.length = cnt) ?_ ?_ _ _ _ ?_
  · rintro acc ρ ⟨rfl, pts, rfl, hp, hlen⟩
    simp only [List.length_nil, Nat.add_zero] at hlen
    subst hlen
    simp only [true_and, startD, startS, startN, dVar, dVarF, dC, dOp, dTru, truD, dTOp, dIsN, dNotN, dTIsN, dTNotN, dTAnd, dTOr, dTNot, dAnd, dOr, dNot, dIf, dChain, dTChain, dSl, dNoPart, dPart, dNil, dCons, dTup, dLst, dCall, dFn, dFnS, sNil, sSeq, sRet, sDrop, sIf, gN, gNil', gCons', gT, sAsg, sSet, sPar, sAug, sSetO, dSeq, dSrc0, dSrc1, sSrc0, sSrc1, dIsi, fAdd, fSub, fMul, fMod, fDiv, fLt, fLe, fGt, fGe, dI2, dB2, dI2c, fIsB, fNotB, isNonD, fLen, fMax2, fMin2, fInt, fListOf, fTupOf, List.getElem?_cons_zero, List.getElem?_cons_succ, List.set_cons_zero, List.set_cons_succ, List.length_cons, List.length_nil, Bool.not_true, Bool.not_false]
    -- behind the points
    have rest : ∀ (a8 a9 : Option D) (pts' : List (Int × Int)), (∀ x ∈ pts', 0 ≤ x.1 ∧ x.1 ≤ x.2 ∧ x.2 ≤ l) → pts'.length = pts.length →
        sSeq (sSet 10 (dLst dNil)) (sSeq (sFor (dRange1 (dCall fLen (dCons (dVar 6) dNil))) (gN 11) (sSet 10 (dOp fAdd (dVar 10) (dLc (dRange1 (dVar 11)) (gN 12) dYes (dTup (dCons (dVar 12) (dCons (dVar 11) dNil))) [12])))) (sSeq (sIf (dTOp fEq (dVar 10) (dLst dNil)) (sRet (dTup (dCons (dVar 4) (dCons (dCall fTupOf (dCons (dVar 6) dNil)) (dCons (dTup dNil) dNil))))) sNil) (sSeq (sSet 10 (dSl (dFnS 0 (fun ds R Er => ds.length + 1 = 2 ∧ f__law_mixed ds R Er) (dCons (dVar 10) dNil)) dNoPart (dPart (dOp fAdd (dC (.int 2)) (dFnS 0 (fun ds R Er => ds.length + 1 = 2 ∧ f__law_draw ds R Er) (dCons (dC (.int 4)) dNil)))))) (sRet (dTup (dCons (dVar 4) (dCons (dCall fTupOf (dCons (dVar 6) dNil)) (dCons (dFnS 0 (fun ds R Er => ds.length + 1 = 5 ∧ f__law_ties ds R Er) (dCons (dVar 6) (dCons (dVar 10) (dCons (dFnS 0 (fun ds R Er => ds.length + 1 = 2 ∧ f__law_draw ds R Er) (dCons (dC (.int 8)) dNil)) (dCons (dVar 3) dNil))))) dNil)))))))) { nx := fun _ => R .none, rt := R }
          [some .src, some (.dat (.int most)), some (.dat (.int days)), some (.dat (.bool g)), some (.dat (.int l)), some (.dat (.int kd)), some (.dat (.list (pts'.map lifeD))), none, a8, a9, none, none, none] Er := by
      intro a8 a9 pts' hp' hl'
      simp only [sFor, dRange1, List.length_map, true_and, startD, startS, startN, dVar, dVarF, dC, dOp, dTru, truD, dTOp, dIsN, dNotN, dTIsN, dTNotN, dTAnd, dTOr, dTNot, dAnd, dOr, dNot, dIf, dChain, dTChain, dSl, dNoPart, dPart, dNil, dCons, dTup, dLst, dCall, dFn, dFnS, sNil, sSeq, sRet, sDrop, sIf, gN, gNil', gCons', gT, sAsg, sSet, sPar, sAug, sSetO, dSeq, dSrc0, dSrc1, sSrc0, sSrc1, dIsi, fAdd, fSub, fMul, fMod, fDiv, fLt, fLe, fGt, fGe, dI2, dB2, dI2c, fIsB, fNotB, isNonD, fLen, fMax2, fMin2, fInt, fListOf, fTupOf, List.getElem?_cons_zero, List.getElem?_cons_succ, List.set_cons_zero, List.set_cons_succ, List.length_cons, List.length_nil, Bool.not_true, Bool.not_false]
      refine ⟨by decide, by omega, by omega, ?_⟩
      refine for_ind (fun r ρ => ∃ (prs : List PyData) (a11 a12 : Option D), ρ = [some .src, some (.dat (.int most)), some (.dat (.int days)), some (.dat (.bool g)), some (.dat (.int l)), some (.dat (.int kd)), some (.dat (.list (pts'.map lifeD))), none, a8, a9, some (.dat (.list prs)), a11, a12] ∧
        (∀ p ∈ prs, ∃ i j : Nat, p = pairD i j ∧ i < j ∧ j < pts'.length) ∧ prs.length + 7 * r.length ≤ 49 ∧ ∀ d ∈ r, ∃ i : Nat, d = .int (i : Int) ∧ i < pts'.length) ?_ ?_ _ _ ?_
      · rintro ρ ⟨prs, a11, a12, rfl, h1, h2, _⟩
        simp only [List.length_nil, Nat.mul_zero, Nat.add_zero] at h2
        have sh : ∀ x ∈ prs, x.canLay0 = true ∧ x.depth ≤ 62 := fun x hx => by
          obtain ⟨i, j, rfl, _, _⟩ := h1 x hx
          refine ⟨by simp only [pairD, PyData.canLay0, PyData.canLayAll0, Bool.and_self], ?_⟩
          simp only [pairD, PyData.depth, PyData.depthAll]
          omega
        simp only [fEq_nil (shaped_list sh), true_and, startD, startS, startN, dVar, dVarF, dC, dOp, dTru, truD, dTOp, dIsN, dNotN, dTIsN, dTNotN, dTAnd, dTOr, dTNot, dAnd, dOr, dNot, dIf, dChain, dTChain, dSl, dNoPart, dPart, dNil, dCons, dTup, dLst, dCall, dFn, dFnS, sNil, sSeq, sRet, sDrop, sIf, gN, gNil', gCons', gT, sAsg, sSet, sPar, sAug, sSetO, dSeq, dSrc0, dSrc1, sSrc0, sSrc1, dIsi, fAdd, fSub, fMul, fMod, fDiv, fLt, fLe, fGt, fGe, dI2, dB2, dI2c, fIsB, fNotB, isNonD, fLen, fMax2, fMin2, fInt, fListOf, fTupOf, List.getElem?_cons_zero, List.getElem?_cons_succ, List.set_cons_zero, List.set_cons_succ, List.length_cons, List.length_nil, Bool.not_true, Bool.not_false]
        refine ⟨by decide, ?_⟩
        cases hpe : prs.isEmpty with
        | true => exact ⟨by decide, by decide, hr l pts' [] ⟨l0, by omega, by omega, by omega, hp', by decide, fun t h => by cases h⟩⟩
        | false =>
          have hne : prs ≠ [] := fun e => by rw [e] at hpe; cases hpe
          refine ⟨prs, rfl, sh, by omega, fun ys ly my => ?_⟩
          refine ⟨4, rfl, by omega, by omega, fun c c0 c1 => ?_⟩
          have hyne : ys ≠ [] := fun e => by
            rw [e] at ly
            exact hne (List.eq_nil_of_length_eq_zero ly.symm)
          simp only [fSl, true_and, startD, startS, startN, dVar, dVarF, dC, dOp, dTru, truD, dTOp, dIsN, dNotN, dTIsN, dTNotN, dTAnd, dTOr, dTNot, dAnd, dOr, dNot, dIf, dChain, dTChain, dSl, dNoPart, dPart, dNil, dCons, dTup, dLst, dCall, dFn, dFnS, sNil, sSeq, sRet, sDrop, sIf, gN, gNil', gCons', gT, sAsg, sSet, sPar, sAug, sSetO, dSeq, dSrc0, dSrc1, sSrc0, sSrc1, dIsi, fAdd, fSub, fMul, fMod, fDiv, fLt, fLe, fGt, fGe, dI2, dB2, dI2c, fIsB, fNotB, isNonD, fLen, fMax2, fMin2, fInt, fListOf, fTupOf, List.getElem?_cons_zero, List.getElem?_cons_succ, List.set_cons_zero, List.set_cons_succ, List.length_cons, List.length_nil, Bool.not_true, Bool.not_false]
          refine ⟨8, rfl, by omega, by omega, fun m q0 q1 => ?_⟩
          refine ⟨pts', cutD ys none (some (2 + c)), m, g, rfl, cut_ne hyne (by omega), Nat.le_trans cut_len (by omega), fun p hq => h1 p (my p (cut_mem hq)), fun x hx => ?_, q0, by omega, fun ts tl tm => ?_⟩
          · have := hp' x hx
            omega
          · exact ⟨by decide, hr l pts' ts ⟨l0, by omega, by omega, by omega, hp', by omega, tm⟩⟩
      · rintro d r ρ ⟨prs, a11, a12, rfl, h1, h2, h3⟩ ih
        obtain ⟨o, rfl, ho⟩ := h3 d List.mem_cons_self
        simp only [List.length_cons] at h2
        simp only [forGo, dLc, dRange1, true_and, startD, startS, startN, dVar, dVarF, dC, dOp, dTru, truD, dTOp, dIsN, dNotN, dTIsN, dTNotN, dTAnd, dTOr, dTNot, dAnd, dOr, dNot, dIf, dChain, dTChain, dSl, dNoPart, dPart, dNil, dCons, dTup, dLst, dCall, dFn, dFnS, sNil, sSeq, sRet, sDrop, sIf, gN, gNil', gCons', gT, sAsg, sSet, sPar, sAug, sSetO, dSeq, dSrc0, dSrc1, sSrc0, sSrc1, dIsi, fAdd, fSub, fMul, fMod, fDiv, fLt, fLe, fGt, fGe, dI2, dB2, dI2c, fIsB, fNotB, isNonD, fLen, fMax2, fMin2, fInt, fListOf, fTupOf, List.getElem?_cons_zero, List.getElem?_cons_succ, List.set_cons_zero, List.set_cons_succ, List.length_cons, List.length_nil, Bool.not_true, Bool.not_false]
        refine ⟨by omega, by omega, ?_⟩
        simp only [wipeD, List.set_cons_succ, List.set_cons_zero]
        refine lc_ind (fun r2 acc ρ => ρ = [some .src, some (.dat (.int most)), some (.dat (.int days)), some (.dat (.bool g)), some (.dat (.int l)), some (.dat (.int kd)), some (.dat (.list (pts'.map lifeD))), none, a8, a9, some (.dat (.list prs)), some (.dat (.int (o : Int))), none] ∧
          (∀ p ∈ acc, ∃ i : Nat, p = pairD i o ∧ i < o) ∧ acc.length + r2.length ≤ 7 ∧ ∀ d ∈ r2, ∃ i : Nat, d = .int (i : Int) ∧ i < o) ?_ ?_ _ _ _ ?_
        · rintro acc ρ ⟨rfl, g1, g2, _⟩
          simp only [List.length_nil, Nat.add_zero] at g2
          simp only [true_and, startD, startS, startN, dVar, dVarF, dC, dOp, dTru, truD, dTOp, dIsN, dNotN, dTIsN, dTNotN, dTAnd, dTOr, dTNot, dAnd, dOr, dNot, dIf, dChain, dTChain, dSl, dNoPart, dPart, dNil, dCons, dTup, dLst, dCall, dFn, dFnS, sNil, sSeq, sRet, sDrop, sIf, gN, gNil', gCons', gT, sAsg, sSet, sPar, sAug, sSetO, dSeq, dSrc0, dSrc1, sSrc0, sSrc1, dIsi, fAdd, fSub, fMul, fMod, fDiv, fLt, fLe, fGt, fGe, dI2, dB2, dI2c, fIsB, fNotB, isNonD, fLen, fMax2, fMin2, fInt, fListOf, fTupOf, List.getElem?_cons_zero, List.getElem?_cons_succ, List.set_cons_zero, List.set_cons_succ, List.length_cons, List.length_nil, Bool.not_true, Bool.not_false]
          rw [if_pos (by simp only [big]; omega)]
          refine ih _ ⟨prs ++ acc, _, _, rfl, fun p hq => ?_, by rw [List.length_append]; omega, fun d hd => h3 d (List.mem_cons_of_mem _ hd)⟩
          rcases List.mem_append.mp hq with hq | hq
          · exact h1 p hq
          · obtain ⟨i, rfl, hi⟩ := g1 p hq
            exact ⟨i, o, rfl, hi, ho⟩
        · rintro d2 r2 acc ρ ⟨rfl, g1, g2, g3⟩ ih2
          obtain ⟨i, rfl, hi⟩ := g3 d2 List.mem_cons_self
          simp only [List.length_cons] at g2
          simp only [lcGo, dYes, true_and, startD, startS, startN, dVar, dVarF, dC, dOp, dTru, truD, dTOp, dIsN, dNotN, dTIsN, dTNotN, dTAnd, dTOr, dTNot, dAnd, dOr, dNot, dIf, dChain, dTChain, dSl, dNoPart, dPart, dNil, dCons, dTup, dLst, dCall, dFn, dFnS, sNil, sSeq, sRet, sDrop, sIf, gN, gNil', gCons', gT, sAsg, sSet, sPar, sAug, sSetO, dSeq, dSrc0, dSrc1, sSrc0, sSrc1, dIsi, fAdd, fSub, fMul, fMod, fDiv, fLt, fLe, fGt, fGe, dI2, dB2, dI2c, fIsB, fNotB, isNonD, fLen, fMax2, fMin2, fInt, fListOf, fTupOf, List.getElem?_cons_zero, List.getElem?_cons_succ, List.set_cons_zero, List.set_cons_succ, List.length_cons, List.length_nil, Bool.not_true, Bool.not_false]
          refine ⟨by decide, by simp only [big]; omega, ?_⟩
          refine ih2 _ _ ⟨rfl, fun p hq => ?_, by simp only [List.length_append, List.length_cons, List.length_nil]; omega, fun d hd => g3 d (List.mem_cons_of_mem _ hd)⟩
          rcases List.mem_append.mp hq with hq | hq
          · exact g1 p hq
          · rw [List.mem_singleton] at hq
            exact ⟨i, hq, hi⟩
        · exact ⟨rfl, (fun p h => by cases h), by rw [rangeD_len]; simp only [List.length_nil]; omega, fun d hd => by
            obtain ⟨i, rfl, hi⟩ := rangeD_mem hd
            exact ⟨i, rfl, by omega⟩⟩
      · exact ⟨[], none, none, rfl, (fun p h => by cases h), by rw [rangeD_len]; simp only [List.length_nil]; omega, fun d hd => by
          obtain ⟨i, rfl, hi⟩ := rangeD_mem hd
          exact ⟨i, rfl, by omega⟩⟩
    cases g with
    | false => simpa only [true_and, startD, startS, startN, dVar, dVarF, dC, dOp, dTru, truD, dTOp, dIsN, dNotN, dTIsN, dTNotN, dTAnd, dTOr, dTNot, dAnd, dOr, dNot, dIf, dChain, dTChain, dSl, dNoPart, dPart, dNil, dCons, dTup, dLst, dCall, dFn, dFnS, sNil, sSeq, sRet, sDrop, sIf, gN, gNil', gCons', gT, sAsg, sSet, sPar, sAug, sSetO, dSeq, dSrc0, dSrc1, sSrc0, sSrc1, dIsi, fAdd, fSub, fMul, fMod, fDiv, fLt, fLe, fGt, fGe, dI2, dB2, dI2c, fIsB, fNotB, isNonD, fLen, fMax2, fMin2, fInt, fListOf, fTupOf, List.getElem?_cons_zero, List.getElem?_cons_succ, List.set_cons_zero, List.set_cons_succ, List.length_cons, List.length_nil, Bool.not_true, Bool.not_false] using rest none none pts hp rfl
    | true =>
      simp only [wipeD, true_and, startD, startS, startN, dVar, dVarF, dC, dOp, dTru, truD, dTOp, dIsN, dNotN, dTIsN, dTNotN, dTAnd, dTOr, dTNot, dAnd, dOr, dNot, dIf, dChain, dTChain, dSl, dNoPart, dPart, dNil, dCons, dTup, dLst, dCall, dFn, dFnS, sNil, sSeq, sRet, sDrop, sIf, gN, gNil', gCons', gT, sAsg, sSet, sPar, sAug, sSetO, dSeq, dSrc0, dSrc1, sSrc0, sSrc1, dIsi, fAdd, fSub, fMul, fMod, fDiv, fLt, fLe, fGt, fGe, dI2, dB2, dI2c, fIsB, fNotB, isNonD, fLen, fMax2, fMin2, fInt, fListOf, fTupOf, List.getElem?_cons_zero, List.getElem?_cons_succ, List.set_cons_zero, List.set_cons_succ, List.length_cons, List.length_nil, Bool.not_true, Bool.not_false]
      refine lc_ind (fun r acc ρ => ρ = [some .src, some (.dat (.int most)), some (.dat (.int days)), some (.dat (.bool true)), some (.dat (.int l)), some (.dat (.int kd)), some (.dat (.list (pts.map lifeD))), none, none, none, none, none, none] ∧
        ∃ (dn rs : List (Int × Int)), acc = dn.map lifeD ∧ r = rs.map lifeD ∧ (∀ x ∈ dn, 0 ≤ x.1 ∧ x.1 ≤ x.2 ∧ x.2 ≤ l) ∧ (∀ x ∈ rs, 0 ≤ x.1 ∧ x.1 ≤ x.2 ∧ x.2 ≤ l) ∧ dn.length + rs.length = pts.length) ?_ ?_ _ _ _ ?_
      · rintro acc ρ ⟨rfl, dn, rs, rfl, e, h1, h2, h3⟩
        have : rs = [] := List.map_eq_nil_iff.mp e.symm
        subst this
        simpa only [true_and, startD, startS, startN, dVar, dVarF, dC, dOp, dTru, truD, dTOp, dIsN, dNotN, dTIsN, dTNotN, dTAnd, dTOr, dTNot, dAnd, dOr, dNot, dIf, dChain, dTChain, dSl, dNoPart, dPart, dNil, dCons, dTup, dLst, dCall, dFn, dFnS, sNil, sSeq, sRet, sDrop, sIf, gN, gNil', gCons', gT, sAsg, sSet, sPar, sAug, sSetO, dSeq, dSrc0, dSrc1, sSrc0, sSrc1, dIsi, fAdd, fSub, fMul, fMod, fDiv, fLt, fLe, fGt, fGe, dI2, dB2, dI2c, fIsB, fNotB, isNonD, fLen, fMax2, fMin2, fInt, fListOf, fTupOf, List.getElem?_cons_zero, List.getElem?_cons_succ, List.set_cons_zero, List.set_cons_succ, List.length_cons, List.length_nil, Bool.not_true, Bool.not_false] using rest none none dn h1 (by simpa using h3)
      · rintro d r acc ρ ⟨rfl, dn, rs, rfl, e, h1, h2, h3⟩ ih
        cases rs with
        | nil => cases e
        | cons x rs =>
          rw [List.map_cons, List.cons.injEq] at e
          obtain ⟨rfl, rfl⟩ := e
          simp only [List.length_cons] at h3
          simp only [lcGo, dYes, lifeD, wipeD, true_and, startD, startS, startN, dVar, dVarF, dC, dOp, dTru, truD, dTOp, dIsN, dNotN, dTIsN, dTNotN, dTAnd, dTOr, dTNot, dAnd, dOr, dNot, dIf, dChain, dTChain, dSl, dNoPart, dPart, dNil, dCons, dTup, dLst, dCall, dFn, dFnS, sNil, sSeq, sRet, sDrop, sIf, gN, gNil', gCons', gT, sAsg, sSet, sPar, sAug, sSetO, dSeq, dSrc0, dSrc1, sSrc0, sSrc1, dIsi, fAdd, fSub, fMul, fMod, fDiv, fLt, fLe, fGt, fGe, dI2, dB2, dI2c, fIsB, fNotB, isNonD, fLen, fMax2, fMin2, fInt, fListOf, fTupOf, List.getElem?_cons_zero, List.getElem?_cons_succ, List.set_cons_zero, List.set_cons_succ, List.length_cons, List.length_nil, Bool.not_true, Bool.not_false]
          refine ⟨by decide, by simp only [big, List.length_map]; omega, ?_⟩
          refine ih _ _ ⟨rfl, dn ++ [(x.1, l)], rs, by simp only [List.map_append, List.map_cons, List.map_nil, lifeD], rfl, fun y hy => ?_, fun y hy => h2 y (List.mem_cons_of_mem _ hy), by simp only [List.length_append, List.length_cons, List.length_nil]; omega⟩
          rcases List.mem_append.mp hy with hy | hy
          · exact h1 y hy
          · rw [List.mem_singleton] at hy
            subst hy
            have := h2 x List.mem_cons_self
            exact ⟨this.1, by simp only; omega, by simp only; omega⟩
      · exact ⟨rfl, [], pts, rfl, rfl, (fun x h => by cases h), hp, by simp⟩
  · rintro d r acc ρ ⟨rfl, pts, rfl, hp, hlen⟩ ih
    simp only [List.length_cons] at hlen
    simp only [lcGo, dYes, wipeD, true_and, startD, startS, startN, dVar, dVarF, dC, dOp, dTru, truD, dTOp, dIsN, dNotN, dTIsN, dTNotN, dTAnd, dTOr, dTNot, dAnd, dOr, dNot, dIf, dChain, dTChain, dSl, dNoPart, dPart, dNil, dCons, dTup, dLst, dCall, dFn, dFnS, sNil, sSeq, sRet, sDrop, sIf, gN, gNil', gCons', gT, sAsg, sSet, sPar, sAug, sSetO, dSeq, dSrc0, dSrc1, sSrc0, sSrc1, dIsi, fAdd, fSub, fMul, fMod, fDiv, fLt, fLe, fGt, fGe, dI2, dB2, dI2c, fIsB, fNotB, isNonD, fLen, fMax2, fMin2, fInt, fListOf, fTupOf, List.getElem?_cons_zero, List.getElem?_cons_succ, List.set_cons_zero, List.set_cons_succ, List.length_cons, List.length_nil, Bool.not_true, Bool.not_false]
    refine ⟨0, l, _, rfl, l0, by omega, fun a b a0 ab b1 => ⟨by simp only [big, List.length_map]; omega, ?_⟩⟩
    refine ih _ _ ⟨rfl, pts ++ [(a, b)], by simp only [List.map_append, List.map_cons, List.map_nil], fun y hy => ?_, by simp only [List.length_append, List.length_cons, List.length_nil]; omega⟩
    rcases List.mem_append.mp hy with hy | hy
    · exact hp y hy
    · rw [List.mem_singleton] at hy
      subst hy
      exact ⟨a0, ab, b1⟩
  · exact ⟨rfl, [], rfl, (fun x h => by cases h), by rw [rangeD_len]; simp only [List.length_nil]; omega⟩
end DD

namespace DD
open PySem L2
theorem all_of {p : PyData → Bool} {xs : List PyData} {x : PyData} (h : xs.all p = true) (hx : x ∈ xs) : p x = true := List.all_eq_true.mp h x hx
def oddOk (d : PyData) : Bool := match d with
  | .dict [] => true
  | d => lv3 d
theorem h__law_odd : ∀ ds R Er, ds.length + 1 = 1 → f__law_odd ds R Er → d__law_odd { nx := fun _ => R .none, rt := R } (startS 2 ds) Er := by
  intro ds R Er hl ⟨e, hr⟩
  subst e
  show d__law_odd _ [some .src, none] Er
  have p40 : fPow (.int 10) (.int 40) = some (.int 10000000000000000000000000000000000000000) := by rfl
  simp only [d__law_odd, p40, big, Nat.reduceAdd, Nat.reduceLeDiff, List.cons_append, List.nil_append, if_true, true_and, startD, startS, startN, dVar, dVarF, dC, dOp, dTru, truD, dTOp, dIsN, dNotN, dTIsN, dTNotN, dTAnd, dTOr, dTNot, dAnd, dOr, dNot, dIf, dChain, dTChain, dSl, dNoPart, dPart, dNil, dCons, dTup, dLst, dCall, dFn, dFnS, sNil, sSeq, sRet, sDrop, sIf, gN, gNil', gCons', gT, sAsg, sSet, sPar, sAug, sSetO, dSeq, dSrc0, dSrc1, sSrc0, sSrc1, dIsi, fAdd, fSub, fMul, fMod, fDiv, fLt, fLe, fGt, fGe, dI2, dB2, dI2c, fIsB, fNotB, isNonD, fLen, fMax2, fMin2, fInt, fListOf, fTupOf, List.getElem?_cons_zero, List.getElem?_cons_succ, List.set_cons_zero, List.set_cons_succ, List.length_cons, List.length_nil, Bool.not_true, Bool.not_false]
  refine ⟨_, .inl rfl, by simp, by simp, fun x hx => hr x ?_⟩
  have h : oddOk x = true := all_of (p := oddOk) (by decide +kernel) hx
  unfold oddOk at h
  split at h
  · exact .inr rfl
  · exact .inl h
theorem h__law_odd_net : ∀ ds R Er, ds.length + 1 = 1 → f__law_odd_net ds R Er → d__law_odd_net { nx := fun _ => R .none, rt := R } (startS 2 ds) Er := by
  intro ds R Er hl ⟨e, hr⟩
  subst e
  show d__law_odd_net _ [some .src, none] Er
  simp only [d__law_odd_net, big, Nat.reduceAdd, Nat.reduceLeDiff, List.cons_append, List.nil_append, if_true, true_and, startD, startS, startN, dVar, dVarF, dC, dOp, dTru, truD, dTOp, dIsN, dNotN, dTIsN, dTNotN, dTAnd, dTOr, dTNot, dAnd, dOr, dNot, dIf, dChain, dTChain, dSl, dNoPart, dPart, dNil, dCons, dTup, dLst, dCall, dFn, dFnS, sNil, sSeq, sRet, sDrop, sIf, gN, gNil', gCons', gT, sAsg, sSet, sPar, sAug, sSetO, dSeq, dSrc0, dSrc1, sSrc0, sSrc1, dIsi, fAdd, fSub, fMul, fMod, fDiv, fLt, fLe, fGt, fGe, dI2, dB2, dI2c, fIsB, fNotB, isNonD, fLen, fMax2, fMin2, fInt, fListOf, fTupOf, List.getElem?_cons_zero, List.getElem?_cons_succ, List.set_cons_zero, List.set_cons_succ, List.length_cons, List.length_nil, Bool.not_true, Bool.not_false]
  refine ⟨_, .inl rfl, by simp, by simp, fun x hx => hr x ?_⟩
  have h : (!isNet x) = true := all_of (p := fun x => !isNet x) (by decide +kernel) hx
  simpa using h
theorem lv1_mk {xs : List PyData} (h : ∀ x ∈ xs, leafD x = true) (hl : xs.length ≤ 8) : lv1 (.tuple xs) = true := by
  simp only [lv1, Bool.and_eq_true, decide_eq_true_eq, List.all_eq_true]
  exact ⟨hl, h⟩
theorem lv2_mk {xs : List PyData} (h : ∀ x ∈ xs, lv1 x = true) (hl : xs.length ≤ 40) : lv2 (.tuple xs) = true := by
  simp only [lv2, Bool.and_eq_true, decide_eq_true_eq, List.all_eq_true]
  exact ⟨hl, h⟩
theorem lv2_mkL {xs : List PyData} (h : ∀ x ∈ xs, lv1 x = true) (hl : xs.length ≤ 40) : lv2 (.list xs) = true := by
  simp only [lv2, Bool.and_eq_true, decide_eq_true_eq, List.all_eq_true]
  exact ⟨hl, h⟩
theorem lv3_3 {a b c : PyData} (ha : lv2 a = true) (hb : lv2 b = true) (hc : lv2 c = true) : lv3 (.tuple [a, b, c]) = true := by
  simp only [lv3, List.all_cons, List.all_nil, ha, hb, hc, Bool.and_true]
  rfl
theorem lv2_int {i : Int} (h0 : -1000 ≤ i) (h1 : i ≤ 1000) : lv2 (.int i) = true := leaf_int h0 h1
theorem tie4_lv {t : PyData} (h : ∃ a b c e : Int, t = .tuple [.int a, .int b, .int c, .int e] ∧ (-100 ≤ a ∧ a ≤ 100) ∧ (-100 ≤ b ∧ b ≤ 100) ∧ (-100 ≤ c ∧ c ≤ 100) ∧ (-100 ≤ e ∧ e ≤ 100)) : lv1 t = true := by
  obtain ⟨a, b, c, e, rfl, ha, hb, hc, he⟩ := h
  have k : ∀ i : Int, -100 ≤ i ∧ i ≤ 100 → leafD (.int i) = true := fun i h => leaf_int (by omega) (by omega)
  simp only [lv1, List.all_cons, List.all_nil, k a ha, k b hb, k c hc, k e he, Bool.and_true]
  rfl
theorem net2_lv3 {d : PyData} (h : Net2 d) : lv3 d = true := by
  obtain ⟨l, ps, ts, rfl, l0, l1, p0, p1, t1, hp, ht⟩ := h
  exact lv3_3 (lv2_int (by omega) (by omega)) (lv2_mk hp (by omega)) (lv2_mk (fun t h => tie4_lv (ht t h)) (by omega))
theorem put_mem {xs : List PyData} {k : Nat} {t x : PyData} (h : x ∈ xs.take k ++ [t] ++ xs.drop (k + 1)) : x ∈ xs ∨ x = t := by
  rcases List.mem_append.mp h with h | h
  · rcases List.mem_append.mp h with h | h
    · exact .inl (List.mem_of_mem_take h)
    · exact .inr (List.mem_singleton.mp h)
  · exact .inl (List.mem_of_mem_drop h)
theorem put_len {xs : List PyData} {k : Nat} {t : PyData} (h : k ≤ xs.length) : 1 ≤ (xs.take k ++ [t] ++ xs.drop (k + 1)).length ∧ (xs.take k ++ [t] ++ xs.drop (k + 1)).length ≤ xs.length + 1 := by
  simp only [List.length_append, List.length_take, List.length_drop, List.length_cons, List.length_nil]
  omega
theorem lf_none : leafD .none = true := rfl
theorem lf_bool (b : Bool) : leafD (.bool b) = true := rfl
theorem lv1_none : lv1 .none = true := rfl
theorem lv1_bool (b : Bool) : lv1 (.bool b) = true := rfl
theorem s_ab : leafD (.str (Str.ofString "ab")) = true := by decide +kernel
theorem s_abcd : leafD (.str (Str.ofString "abcd")) = true := by decide +kernel
theorem s_1 : leafD (.str (Str.ofString "1")) = true := by decide +kernel
theorem lv1_str {s : Str} (h : leafD (.str s) = true) : lv1 (.str s) = true := h
theorem leaf_if (i : Int) : leafD (.int i) = (decide (-1000000000000000000000000000000000000000000000000000000000000 ≤ i) && decide (i ≤ 1000000000000000000000000000000000000000000000000000000000000)) := by
  have e : (10 : Int) ^ 60 = 1000000000000000000000000000000000000000000000000000000000000 := by decide +kernel
  simp only [leafD, e]
theorem lv1_if (i : Int) : lv1 (.int i) = (decide (-1000000000000000000000000000000000000000000000000000000000000 ≤ i) && decide (i ≤ 1000000000000000000000000000000000000000000000000000000000000)) := leaf_if i
theorem h__law_bent_point : ∀ ds R Er, ds.length + 1 = 2 → f__law_bent_point ds R Er → d__law_bent_point { nx := fun _ => R .none, rt := R } (startS 7 ds) Er := by
  intro ds R Er hl ⟨d, e, hn, h7, hr⟩
  subst e
  obtain ⟨l, ps, ts, rfl, l0, l1, p0, p1, t1, hp, ht⟩ := hn
  have h7 := h7 l ps ts rfl
  show d__law_bent_point _ [some .src, some (.dat (.tuple [.int l, .tuple ps, .tuple ts])), none, none, none, none, none] Er
  simp only [d__law_bent_point, big, Nat.reduceAdd, Nat.reduceLeDiff, List.cons_append, List.nil_append, if_true, true_and, startD, startS, startN, dVar, dVarF, dC, dOp, dTru, truD, dTOp, dIsN, dNotN, dTIsN, dTNotN, dTAnd, dTOr, dTNot, dAnd, dOr, dNot, dIf, dChain, dTChain, dSl, dNoPart, dPart, dNil, dCons, dTup, dLst, dCall, dFn, dFnS, sNil, sSeq, sRet, sDrop, sIf, gN, gNil', gCons', gT, sAsg, sSet, sPar, sAug, sSetO, dSeq, dSrc0, dSrc1, sSrc0, sSrc1, dIsi, fAdd, fSub, fMul, fMod, fDiv, fLt, fLe, fGt, fGe, dI2, dB2, dI2c, fIsB, fNotB, isNonD, fLen, fMax2, fMin2, fInt, fListOf, fTupOf, List.getElem?_cons_zero, List.getElem?_cons_succ, List.set_cons_zero, List.set_cons_succ, List.length_cons, List.length_nil, Bool.not_true, Bool.not_false]
  refine ⟨_, rfl, by omega, by omega, fun k k0 k1 => ?_⟩
  refine ⟨_, .inl rfl, by simp, by simp, fun x hx => ?_⟩
  have hx1 : lv1 x = true := all_of (p := lv1) (by
    simp only [List.all_cons, List.all_nil, Nat.reduceAdd, Nat.reduceLeDiff, decide_true, true_and, and_true, lf_none, lf_bool, s_ab, s_abcd, s_1, lv1_none, lv1_bool, lv1_if, lv1_str s_ab, lv1, leaf_if, List.length_cons, List.length_nil, Bool.and_true, Bool.true_and, Bool.and_eq_true, decide_eq_true_eq]
    omega) hx
  have hk := put_len (xs := ps) (t := x) (show k.toNat ≤ ps.length by omega)
  refine ⟨ps, k.toNat, x, by rw [Int.toNat_of_nonneg k0], by omega, by omega, ?_⟩
  have N : Net2 (.tuple [.int l, .tuple (ps.take k.toNat ++ [x] ++ ps.drop (k.toNat + 1)), .tuple ts]) := ⟨l, _, ts, rfl, l0, l1, hk.1, by omega, t1, fun y hy => by
    rcases put_mem hy with h | h
    · exact hp y h
    · subst h; exact hx1, ht⟩
  exact hr _ N (net2_lv3 N)
theorem shaped_ties {ts : List PyData} (ht : ∀ t ∈ ts, ∃ a b c e : Int, t = .tuple [.int a, .int b, .int c, .int e] ∧ (-100 ≤ a ∧ a ≤ 100) ∧ (-100 ≤ b ∧ b ≤ 100) ∧ (-100 ≤ c ∧ c ≤ 100) ∧ (-100 ≤ e ∧ e ≤ 100)) : SeqAt.shaped (.tuple ts) = true := by
  have h : SeqAt.shaped (.list ts) = true := shaped_list fun x hx => by
    obtain ⟨a, b, c, e, rfl, _⟩ := ht x hx
    refine ⟨by simp only [PyData.canLay0, PyData.canLayAll0, Bool.and_self], ?_⟩
    simp only [PyData.depth, PyData.depthAll]
    omega
  have c := SeqAt.canLay_of_shaped h
  have d := SeqAt.depth_of_shaped h
  simp only [PyData.canLay0, PyData.depth] at c d
  exact Bool.and_eq_true_iff.mpr ⟨by simpa only [PyData.canLay0] using c, decide_eq_true (by simpa only [PyData.depth] using d)⟩
theorem fNe_nilT {xs : List PyData} (h : SeqAt.shaped (.tuple xs) = true) : fNe (.tuple xs) (.tuple []) = some (.bool (!xs.isEmpty)) := by
  have h2 : SeqAt.shaped (.tuple []) = true := by decide
  simp only [fNe, h, h2, Bool.and_true, if_true, PyData.eqv, eqvAll_nil]
end DD

namespace DD
open PySem L2
theorem h__law_bent_tie : ∀ ds R Er, ds.length + 1 = 2 → f__law_bent_tie ds R Er → d__law_bent_tie { nx := fun _ => R .none, rt := R } (startS 12 ds) Er := by
  intro ds R Er hl ⟨d, e, hn, hr⟩
  subst e
  obtain ⟨l, ps, ts, rfl, l0, l1, p0, p1, t1, hp, ht⟩ := hn
  show d__law_bent_tie _ [some .src, some (.dat (.tuple [.int l, .tuple ps, .tuple ts])), none, none, none, none, none, none, none, none, none, none] Er
  simp only [d__law_bent_tie, big, Nat.reduceAdd, Nat.reduceLeDiff, List.cons_append, List.nil_append, if_true, fNe_nilT (shaped_ties ht), true_and, startD, startS, startN, dVar, dVarF, dC, dOp, dTru, truD, dTOp, dIsN, dNotN, dTIsN, dTNotN, dTAnd, dTOr, dTNot, dAnd, dOr, dNot, dIf, dChain, dTChain, dSl, dNoPart, dPart, dNil, dCons, dTup, dLst, dCall, dFn, dFnS, sNil, sSeq, sRet, sDrop, sIf, gN, gNil', gCons', gT, sAsg, sSet, sPar, sAug, sSetO, dSeq, dSrc0, dSrc1, sSrc0, sSrc1, dIsi, fAdd, fSub, fMul, fMod, fDiv, fLt, fLe, fGt, fGe, dI2, dB2, dI2c, fIsB, fNotB, isNonD, fLen, fMax2, fMin2, fInt, fListOf, fTupOf, List.getElem?_cons_zero, List.getElem?_cons_succ, List.set_cons_zero, List.set_cons_succ, List.length_cons, List.length_nil, Bool.not_true, Bool.not_false]
  refine ⟨_, rfl, by omega, by omega, fun k k0 k1 => ?_⟩
  have fin : ∀ x : PyData, lv1 x = true → R (.tuple [.int l, .tuple ps, .tuple (ts.take k.toNat ++ [x] ++ ts.drop (k.toNat + 1))]) := fun x hx1 => by
    have hk := put_len (xs := ts) (t := x) (show k.toNat ≤ ts.length by omega)
    refine hr _ (lv3_3 (lv2_int (by omega) (by omega)) (lv2_mk hp (by omega)) (lv2_mk (fun y hy => ?_) (by omega)))
    rcases put_mem hy with h | h
    · exact tie4_lv (ht y h)
    · subst h; exact hx1
  cases hte : ts.isEmpty with
  | true =>
    simp only [true_and, startD, startS, startN, dVar, dVarF, dC, dOp, dTru, truD, dTOp, dIsN, dNotN, dTIsN, dTNotN, dTAnd, dTOr, dTNot, dAnd, dOr, dNot, dIf, dChain, dTChain, dSl, dNoPart, dPart, dNil, dCons, dTup, dLst, dCall, dFn, dFnS, sNil, sSeq, sRet, sDrop, sIf, gN, gNil', gCons', gT, sAsg, sSet, sPar, sAug, sSetO, dSeq, dSrc0, dSrc1, sSrc0, sSrc1, dIsi, fAdd, fSub, fMul, fMod, fDiv, fLt, fLe, fGt, fGe, dI2, dB2, dI2c, fIsB, fNotB, isNonD, fLen, fMax2, fMin2, fInt, fListOf, fTupOf, List.getElem?_cons_zero, List.getElem?_cons_succ, List.set_cons_zero, List.set_cons_succ, List.length_cons, List.length_nil, Bool.not_true, Bool.not_false]
    refine ⟨_, .inl rfl, by simp, by simp, fun x hx => ?_⟩
    have hx1 : lv1 x = true := all_of (p := lv1) (by
      simp only [List.all_cons, List.all_nil, Nat.reduceAdd, Nat.reduceLeDiff, decide_true, true_and, and_true, lf_none, lf_bool, s_ab, s_abcd, s_1, lv1_none, lv1_bool, lv1_if, lv1_str s_abcd, lv1, leaf_if, List.length_cons, List.length_nil, Bool.and_true, Bool.true_and, Bool.and_eq_true, decide_eq_true_eq]
      omega) hx
    exact ⟨ts, k.toNat, x, by rw [Int.toNat_of_nonneg k0], by omega, by omega, fin x hx1⟩
  | false =>
    have hne : ts ≠ [] := fun e => by rw [e] at hte; cases hte
    simp only [true_and, startD, startS, startN, dVar, dVarF, dC, dOp, dTru, truD, dTOp, dIsN, dNotN, dTIsN, dTNotN, dTAnd, dTOr, dTNot, dAnd, dOr, dNot, dIf, dChain, dTChain, dSl, dNoPart, dPart, dNil, dCons, dTup, dLst, dCall, dFn, dFnS, sNil, sSeq, sRet, sDrop, sIf, gN, gNil', gCons', gT, sAsg, sSet, sPar, sAug, sSetO, dSeq, dSrc0, dSrc1, sSrc0, sSrc1, dIsi, fAdd, fSub, fMul, fMod, fDiv, fLt, fLe, fGt, fGe, dI2, dB2, dI2c, fIsB, fNotB, isNonD, fLen, fMax2, fMin2, fInt, fListOf, fTupOf, List.getElem?_cons_zero, List.getElem?_cons_succ, List.set_cons_zero, List.set_cons_succ, List.length_cons, List.length_nil, Bool.not_true, Bool.not_false]
    refine ⟨_, .inl rfl, hne, by omega, fun t hm => ?_⟩
    obtain ⟨a, b, c, e, rfl, ha, hb, hc, he⟩ := ht t hm
    simp only [big, Nat.reduceAdd, Nat.reduceLeDiff, List.cons_append, List.nil_append, if_true, true_and, startD, startS, startN, dVar, dVarF, dC, dOp, dTru, truD, dTOp, dIsN, dNotN, dTIsN, dTNotN, dTAnd, dTOr, dTNot, dAnd, dOr, dNot, dIf, dChain, dTChain, dSl, dNoPart, dPart, dNil, dCons, dTup, dLst, dCall, dFn, dFnS, sNil, sSeq, sRet, sDrop, sIf, gN, gNil', gCons', gT, sAsg, sSet, sPar, sAug, sSetO, dSeq, dSrc0, dSrc1, sSrc0, sSrc1, dIsi, fAdd, fSub, fMul, fMod, fDiv, fLt, fLe, fGt, fGe, dI2, dB2, dI2c, fIsB, fNotB, isNonD, fLen, fMax2, fMin2, fInt, fListOf, fTupOf, List.getElem?_cons_zero, List.getElem?_cons_succ, List.set_cons_zero, List.set_cons_succ, List.length_cons, List.length_nil, Bool.not_true, Bool.not_false]
    refine ⟨_, .inl rfl, by simp, by simp, fun x hx => ?_⟩
    have hx1 : lv1 x = true := all_of (p := lv1) (by
      simp only [List.all_cons, List.all_nil, Nat.reduceAdd, Nat.reduceLeDiff, decide_true, true_and, and_true, lf_none, lf_bool, s_ab, s_abcd, s_1, lv1_none, lv1_bool, lv1_if, lv1_str s_abcd, lv1, leaf_if, List.length_cons, List.length_nil, Bool.and_true, Bool.true_and, Bool.and_eq_true, decide_eq_true_eq]
      omega) hx
    exact ⟨ts, k.toNat, x, by rw [Int.toNat_of_nonneg k0], by omega, by omega, fin x hx1⟩
end DD

namespace DD
open PySem L2
theorem rep_mem {xs : List PyData} {x : PyData} : ∀ n : Nat, x ∈ (List.replicate n xs).flatten → x ∈ xs
  | 0, h => by cases h
  | n + 1, h => by
    rw [List.replicate_succ, List.flatten_cons] at h
    rcases List.mem_append.mp h with h | h
    · exact h
    · exact rep_mem n h
theorem rep_len {xs : List PyData} : ∀ n : Nat, (List.replicate n xs).flatten.length = n * xs.length
  | 0 => by simp
  | n + 1 => by
    rw [List.replicate_succ, List.flatten_cons, List.length_append, rep_len n, Nat.succ_mul]
    omega
theorem h__law_bent : ∀ ds R Er, ds.length + 1 = 2 → f__law_bent ds R Er → d__law_bent { nx := fun _ => R .none, rt := R } (startS 7 ds) Er := by
  intro ds R Er hl ⟨d, e, hn, h7, hr⟩
  subst e
  have hn0 := hn
  obtain ⟨l, ps, ts, rfl, l0, l1, p0, p1, t1, hp, ht⟩ := hn
  have h7' := h7 l ps ts rfl
  have vl : lv2 (.int l) = true := lv2_int (by omega) (by omega)
  have vp : lv2 (.tuple ps) = true := lv2_mk hp (by omega)
  have vt : lv2 (.tuple ts) = true := lv2_mk (fun t h => tie4_lv (ht t h)) (by omega)
  have vpL : lv2 (.list ps) = true := lv2_mkL hp (by omega)
  have vtL : lv2 (.list ts) = true := lv2_mkL (fun t h => tie4_lv (ht t h)) (by omega)
  have v0 : lv2 (.int 0) = true := lv2_int (by omega) (by omega)
  have p30 : fPow (.int 10) (.int 30) = some (.int 1000000000000000000000000000000) := by rfl
  have c2 : ∀ a b c : PyData, fSl (.tuple [a, b, c]) none (some 2) = some (.tuple [a, b]) := fun _ _ _ => rfl
  show d__law_bent _ [some .src, some (.dat (.tuple [.int l, .tuple ps, .tuple ts])), none, none, none, none, none] Er
  simp only [d__law_bent, big, Nat.reduceAdd, Nat.reduceLeDiff, List.cons_append, List.nil_append, if_true, p30, c2, fEq, true_and, startD, startS, startN, dVar, dVarF, dC, dOp, dTru, truD, dTOp, dIsN, dNotN, dTIsN, dTNotN, dTAnd, dTOr, dTNot, dAnd, dOr, dNot, dIf, dChain, dTChain, dSl, dNoPart, dPart, dNil, dCons, dTup, dLst, dCall, dFn, dFnS, sNil, sSeq, sRet, sDrop, sIf, gN, gNil', gCons', gT, sAsg, sSet, sPar, sAug, sSetO, dSeq, dSrc0, dSrc1, sSrc0, sSrc1, dIsi, fAdd, fSub, fMul, fMod, fDiv, fLt, fLe, fGt, fGe, dI2, dB2, dI2c, fIsB, fNotB, isNonD, fLen, fMax2, fMin2, fInt, fListOf, fTupOf, List.getElem?_cons_zero, List.getElem?_cons_succ, List.set_cons_zero, List.set_cons_succ, List.length_cons, List.length_nil, Bool.not_true, Bool.not_false]
  refine ⟨9, rfl, by omega, by omega, fun k k0 k1 => ?_⟩
  by_cases k2 : k < 2
  · simp only [decide_eq_true k2]
    exact ⟨_, rfl, hn0, h7, fun e _ h => hr e h⟩
  simp only [decide_eq_false k2]
  by_cases k5 : k < 5
  · simp only [decide_eq_true k5]
    exact ⟨_, rfl, hn0, fun e h => hr e h⟩
  simp only [decide_eq_false k5]
  by_cases q5 : k = 5
  · simp only [decide_eq_true q5]
    refine ⟨_, .inl rfl, by simp, by simp, fun x hx => ?_⟩
    have hx1 : lv1 x = true := all_of (p := lv1) (by
      simp only [List.all_cons, List.all_nil, Nat.reduceAdd, Nat.reduceLeDiff, decide_true, true_and, and_true, lf_none, lf_bool, s_ab, s_abcd, s_1, lv1_none, lv1_bool, lv1_if, lv1_str s_1, lv1, leaf_if, List.length_cons, List.length_nil, Bool.and_true, Bool.true_and, Bool.and_eq_true, decide_eq_true_eq]
      omega) hx
    exact hr _ (lv3_3 (lv12 hx1) vp vt)
  simp only [decide_eq_false q5]
  by_cases q6 : k = 6
  · simp only [decide_eq_true q6]
    refine ⟨_, .inl rfl, by simp, by simp, fun x hx => hr x ?_⟩
    simp only [List.mem_cons, List.not_mem_nil, or_false] at hx
    rcases hx with rfl | rfl | rfl | rfl | rfl
    · simp only [lv3, List.all_cons, List.all_nil, vl, vp, vt, Bool.and_true]; rfl
    · simp only [lv3, List.all_cons, List.all_nil, vl, vp, vt, Bool.and_true]; rfl
    · simp only [lv3, List.all_cons, List.all_nil, vl, vp, vt, v0, Bool.and_true]; rfl
    · exact lv3_3 vl vpL vt
    · exact lv3_3 vl vp vtL
  simp only [decide_eq_false q6]
  by_cases q7 : k = 7
  · simp only [decide_eq_true q7]
    have e1 : (decide ((0 : Int) ≤ 3) && decide ((3 : Int) ≤ 1000) && decide (ps.length ≤ 1000)) = true := by
      rw [decide_eq_true (show ps.length ≤ 1000 by omega)]; rfl
    simp only [e1, if_true]
    exact hr _ (lv3_3 vl (lv2_mk (fun x hx => hp x (rep_mem _ hx)) (by rw [rep_len]; have : (3 : Int).toNat = 3 := rfl; rw [this]; omega)) vt)
  simp only [decide_eq_false q7]
  refine ⟨4, rfl, by omega, by omega, fun m m0 m1 => ?_⟩
  have e1 : (decide ((0 : Int) ≤ 1 + m) && decide ((1 : Int) + m ≤ 1000) && decide (ts.length ≤ 1000)) = true := by
    rw [decide_eq_true (show ts.length ≤ 1000 by omega), decide_eq_true (show (0 : Int) ≤ 1 + m by omega), decide_eq_true (show (1 : Int) + m ≤ 1000 by omega)]; rfl
  simp only [e1, if_true]
  refine hr _ (lv3_3 vl vp (lv2_mk (fun x hx => tie4_lv (ht x (rep_mem _ hx))) ?_))
  rw [rep_len]
  have : (1 + m).toNat ≤ 4 := by omega
  exact Nat.le_trans (Nat.mul_le_mul this t1) (by omega)
/-! ### the law -/
theorem net_net2 {l : Int} {pts : List (Int × Int)} {ts : List PyData} (h : NetOk l pts ts) : Net2 (netD l pts ts) ∧ pts.length ≤ 7 := by
  obtain ⟨l0, l1, p0, p1, hp, t1, ht⟩ := h
  refine ⟨⟨l, _, ts, rfl, l0, l1, by rw [List.length_map]; exact p0, by rw [List.length_map]; omega, t1, fun x hx => ?_, fun t h => ?_⟩, p1⟩
  · obtain ⟨y, hy, rfl⟩ := List.mem_map.mp hx
    have := hp y hy
    exact lv1_mk (fun z hz => by
      simp only [List.mem_cons, List.not_mem_nil, or_false] at hz
      rcases hz with rfl | rfl
      · exact leaf_int (by omega) (by omega)
      · exact leaf_int (by omega) (by omega)) (by simp)
  · obtain ⟨i, j, x, y, f, e, rfl, hij, ex, ey, h1, h2, h3⟩ := ht t h
    have bx := hp x (List.mem_of_getElem? ex)
    have by' := hp y (List.mem_of_getElem? ey)
    have hj : j < pts.length := (List.getElem?_eq_some_iff.mp ey).1
    exact ⟨_, _, _, _, rfl, by omega, by omega, by omega, by omega⟩
def okS (a : Option D) : Prop := ∀ d, a = some d → (∃ x, d = .dat x) ∨ ∃ ns, d = .scr ns
theorem okS_none : okS none := fun d h => by cases h
theorem okS_dat (x : PyData) : okS (some (.dat x)) := fun d h => by cases h; exact .inl ⟨x, rfl⟩
theorem okS_scr (ns : List Int) : okS (some (.scr ns)) := fun d h => by cases h; exact .inr ⟨ns, rfl⟩
theorem noOwn_nil : noOwn [] := fun i d h => by simp at h
theorem noOwn_cons {a : Option D} {ρ : Env'} (h : okS a) (hr : noOwn ρ) : noOwn (a :: ρ) := fun i d e => by
  cases i with
  | zero => simp only [List.getElem?_cons_zero, Option.some.injEq] at e; exact h d e
  | succ i => simp only [List.getElem?_cons_succ] at e; exact hr i d e
theorem unSrc_ok {a : Option D} {ρ : Env'} (h : okS a) : unSrc (a :: ρ) = a :: unSrc ρ := by
  cases a with
  | none => rfl
  | some d =>
    rcases h d rfl with ⟨x, rfl⟩ | ⟨ns, rfl⟩ <;> rfl
theorem unSrc_src {ρ : Env'} : unSrc (some .src :: ρ) = none :: unSrc ρ := rfl
theorem unSrc_nil : unSrc [] = [] := rfl
theorem is_odd0 : isNet (.tuple [.int 0, .tuple [], .tuple []]) = true := by decide +kernel
theorem is_great : isNet (.tuple [.int 8, .tuple (List.replicate (7 : Int).toNat [PyData.tuple [.int 0, .int 8]]).flatten, .tuple (List.replicate (9 : Int).toNat [PyData.tuple [.int 0, .int 6, .int 8, .int 8]]).flatten]) = true := by decide +kernel
theorem h_law : ∀ ns, ok_law ns → d_law { nx := fun _ => False, rt := fun d => d = .bool true } (some (.scr ns) :: List.replicate (8 - 1) none) noEr := by
  intro ns ⟨hb, hl⟩
  show d_law _ [some (.scr ns), none, none, none, none, none, none, none] noEr
  simp only [d_law, sFor, dRange1, sNew, dLenO, maxI, minI, fIsB, fNotB, big, Nat.reduceAdd, Nat.reduceLeDiff, List.cons_append, List.nil_append, if_true, true_and, startD, startS, startN, dVar, dVarF, dC, dOp, dTru, truD, dTOp, dIsN, dNotN, dTIsN, dTNotN, dTAnd, dTOr, dTNot, dAnd, dOr, dNot, dIf, dChain, dTChain, dSl, dNoPart, dPart, dNil, dCons, dTup, dLst, dCall, dFn, dFnS, sNil, sSeq, sRet, sDrop, sIf, gN, gNil', gCons', gT, sAsg, sSet, sPar, sAug, sSetO, dSeq, dSrc0, dSrc1, sSrc0, sSrc1, dIsi, fAdd, fSub, fMul, fMod, fDiv, fLt, fLe, fGt, fGe, dI2, dB2, dI2c, fIsB, fNotB, isNonD, fLen, fMax2, fMin2, fInt, fListOf, fTupOf, List.getElem?_cons_zero, List.getElem?_cons_succ, List.set_cons_zero, List.set_cons_succ, List.length_cons, List.length_nil, Bool.not_true, Bool.not_false]
  have hm : (max 1 (min 3 (ns.length : Int))).toNat ≤ 3 := by omega
  refine ⟨by omega, by omega, ?_⟩
  refine for_ind (fun r ρ => ∃ a1 a3 a4 a5 a6 a7 : Option D, ρ = [some (.scr ns), a1, none, a3, a4, a5, a6, a7] ∧ okS a1 ∧ okS a3 ∧ okS a4 ∧ okS a5 ∧ okS a6 ∧ okS a7 ∧ ∀ d ∈ r, ∃ i : Nat, d = .int (i : Int) ∧ i < 3) ?_ ?_ _ _ ?_
  · rintro ρ ⟨a1, a3, a4, a5, a6, a7, rfl, _⟩
    refine ⟨_, rfl, ?_⟩
    simp only [is_great, decide_true]
  · rintro d r ρ ⟨a1, a3, a4, a5, a6, a7, rfl, h1, h3, h4, h5, h6, h7, hd⟩ ih
    obtain ⟨i, rfl, hi⟩ := hd d List.mem_cons_self
    simp only [forGo, gN, List.set_cons_succ, List.set_cons_zero]
    have hno : noOwn [some (.scr ns), some (.dat (.int (i : Int))), none, a3, a4, a5, a6, a7] := noOwn_cons (okS_scr ns) (noOwn_cons (okS_dat _) (noOwn_cons okS_none (noOwn_cons h3 (noOwn_cons h4 (noOwn_cons h5 (noOwn_cons h6 (noOwn_cons h7 noOwn_nil)))))))
    have last : ∀ b3 b4 b5 b6 b7 : Option D, okS b3 → okS b4 → okS b5 → okS b6 → okS b7 → unSrc [some (.scr ns), some (.dat (.int (i : Int))), some .src, b3, b4, b5, b6, b7] = [some (.scr ns), some (.dat (.int (i : Int))), none, b3, b4, b5, b6, b7] :=
      fun b3 b4 b5 b6 b7 g3 g4 g5 g6 g7 => by rw [unSrc_ok (okS_scr ns), unSrc_ok (okS_dat _), unSrc_src, unSrc_ok g3, unSrc_ok g4, unSrc_ok g5, unSrc_ok g6, unSrc_ok g7, unSrc_nil]
    simp only [sNew, true_and, startD, startS, startN, dVar, dVarF, dC, dOp, dTru, truD, dTOp, dIsN, dNotN, dTIsN, dTNotN, dTAnd, dTOr, dTNot, dAnd, dOr, dNot, dIf, dChain, dTChain, dSl, dNoPart, dPart, dNil, dCons, dTup, dLst, dCall, dFn, dFnS, sNil, sSeq, sRet, sDrop, sIf, gN, gNil', gCons', gT, sAsg, sSet, sPar, sAug, sSetO, dSeq, dSrc0, dSrc1, sSrc0, sSrc1, dIsi, fAdd, fSub, fMul, fMod, fDiv, fLt, fLe, fGt, fGe, dI2, dB2, dI2c, fIsB, fNotB, isNonD, fLen, fMax2, fMin2, fInt, fListOf, fTupOf, List.getElem?_cons_zero, List.getElem?_cons_succ, List.set_cons_zero, List.set_cons_succ, List.length_cons, List.length_nil, Bool.not_true, Bool.not_false]
    refine ⟨hno, ns, rfl, ⟨hb, by omega, by omega⟩, ?_⟩
    simp only [sFor, dRange1, true_and, startD, startS, startN, dVar, dVarF, dC, dOp, dTru, truD, dTOp, dIsN, dNotN, dTIsN, dTNotN, dTAnd, dTOr, dTNot, dAnd, dOr, dNot, dIf, dChain, dTChain, dSl, dNoPart, dPart, dNil, dCons, dTup, dLst, dCall, dFn, dFnS, sNil, sSeq, sRet, sDrop, sIf, gN, gNil', gCons', gT, sAsg, sSet, sPar, sAug, sSetO, dSeq, dSrc0, dSrc1, sSrc0, sSrc1, dIsi, fAdd, fSub, fMul, fMod, fDiv, fLt, fLe, fGt, fGe, dI2, dB2, dI2c, fIsB, fNotB, isNonD, fLen, fMax2, fMin2, fInt, fListOf, fTupOf, List.getElem?_cons_zero, List.getElem?_cons_succ, List.set_cons_zero, List.set_cons_succ, List.length_cons, List.length_nil, Bool.not_true, Bool.not_false]
    refine ⟨by decide, by decide, ?_⟩
    refine for_ind (fun r ρ => ∃ b3 b4 b5 b6 b7 : Option D, ρ = [some (.scr ns), some (.dat (.int (i : Int))), some .src, b3, b4, b5, b6, b7] ∧ okS b3 ∧ okS b4 ∧ okS b5 ∧ okS b6 ∧ okS b7) ?_ ?_ _ _ ?_
    · rintro ρ ⟨b3, b4, b5, b6, b7, rfl, g3, g4, g5, g6, g7⟩
      have nxt := ih _ ⟨_, _, _, _, _, _, last b3 b4 b5 b6 b7 g3 g4 g5 g6 g7, okS_dat _, g3, g4, g5, g6, g7, fun d h => hd d (List.mem_cons_of_mem _ h)⟩
      simp only [fNotB, big, Nat.reduceAdd, Nat.reduceLeDiff, true_and, startD, startS, startN, dVar, dVarF, dC, dOp, dTru, truD, dTOp, dIsN, dNotN, dTIsN, dTNotN, dTAnd, dTOr, dTNot, dAnd, dOr, dNot, dIf, dChain, dTChain, dSl, dNoPart, dPart, dNil, dCons, dTup, dLst, dCall, dFn, dFnS, sNil, sSeq, sRet, sDrop, sIf, gN, gNil', gCons', gT, sAsg, sSet, sPar, sAug, sSetO, dSeq, dSrc0, dSrc1, sSrc0, sSrc1, dIsi, fAdd, fSub, fMul, fMod, fDiv, fLt, fLe, fGt, fGe, dI2, dB2, dI2c, fIsB, fNotB, isNonD, fLen, fMax2, fMin2, fInt, fListOf, fTupOf, List.getElem?_cons_zero, List.getElem?_cons_succ, List.set_cons_zero, List.set_cons_succ, List.length_cons, List.length_nil, Bool.not_true, Bool.not_false]
      refine ⟨rfl, fun v hv => ⟨v, rfl, ?_⟩⟩
      rw [hv]
      refine ⟨_, rfl, ?_⟩
      rw [is_odd0]
      exact nxt
    · rintro d2 r2 ρ ⟨b3, b4, b5, b6, b7, rfl, g3, g4, g5, g6, g7⟩ ih2
      simp only [forGo]
      generalize forGo (gN 3) _ _ _ r2 = KK at ih2 ⊢
      simp only [big, Nat.reduceAdd, Nat.reduceLeDiff, true_and, startD, startS, startN, dVar, dVarF, dC, dOp, dTru, truD, dTOp, dIsN, dNotN, dTIsN, dTNotN, dTAnd, dTOr, dTNot, dAnd, dOr, dNot, dIf, dChain, dTChain, dSl, dNoPart, dPart, dNil, dCons, dTup, dLst, dCall, dFn, dFnS, sNil, sSeq, sRet, sDrop, sIf, gN, gNil', gCons', gT, sAsg, sSet, sPar, sAug, sSetO, dSeq, dSrc0, dSrc1, sSrc0, sSrc1, dIsi, fAdd, fSub, fMul, fMod, fDiv, fLt, fLe, fGt, fGe, dI2, dB2, dI2c, fIsB, fNotB, isNonD, fLen, fMax2, fMin2, fInt, fListOf, fTupOf, List.getElem?_cons_zero, List.getElem?_cons_succ, List.set_cons_zero, List.set_cons_succ, List.length_cons, List.length_nil, Bool.not_true, Bool.not_false]
      refine ⟨5, 5, false, rfl, by omega, by omega, by omega, by omega, fun l pts ts hnet => ?_⟩
      obtain ⟨N2, n7⟩ := net_net2 hnet
      have p7 : ∀ l' ps' ts', netD l pts ts = .tuple [.int l', .tuple ps', .tuple ts'] → ps'.length ≤ 7 := fun l' ps' ts' e => by
        unfold netD at e
        injection e with e
        injection e with _ e
        injection e with e _
        injection e with e
        rw [← e, List.length_map]
        exact n7
      refine ⟨_, rfl, N2, p7, fun e1 he1 _ => ⟨_, rfl, he1, fun e2 he2 => ?_⟩⟩
      simp only [sFor, big, Nat.reduceAdd, Nat.reduceLeDiff, true_and, startD, startS, startN, dVar, dVarF, dC, dOp, dTru, truD, dTOp, dIsN, dNotN, dTIsN, dTNotN, dTAnd, dTOr, dTNot, dAnd, dOr, dNot, dIf, dChain, dTChain, dSl, dNoPart, dPart, dNil, dCons, dTup, dLst, dCall, dFn, dFnS, sNil, sSeq, sRet, sDrop, sIf, gN, gNil', gCons', gT, sAsg, sSet, sPar, sAug, sSetO, dSeq, dSrc0, dSrc1, sSrc0, sSrc1, dIsi, fAdd, fSub, fMul, fMod, fDiv, fLt, fLe, fGt, fGe, dI2, dB2, dI2c, fIsB, fNotB, isNonD, fLen, fMax2, fMin2, fInt, fListOf, fTupOf, List.getElem?_cons_zero, List.getElem?_cons_succ, List.set_cons_zero, List.set_cons_succ, List.length_cons, List.length_nil, Bool.not_true, Bool.not_false]
      refine ⟨_, rfl, N2, p7, fun e3 he3 => ⟨_, rfl, N2, p7, fun e4 he4 => ⟨rfl, fun e5 he5 => ?_⟩⟩⟩
      refine for_ind (fun r ρ => ∃ b6 b7 : Option D, ρ = [some (.scr ns), some (.dat (.int (i : Int))), some .src, some (.dat d2), some (.dat (netD l pts ts)), some (.dat e2), b6, b7] ∧ okS b6 ∧ okS b7 ∧ ∀ d ∈ r, lv3 d = true ∨ d = .dict []) ?_ ?_ _ _ ?_
      · rintro ρ ⟨b6, b7, rfl, g6, g7, _⟩
        exact ih2 _ ⟨_, _, _, _, _, rfl, okS_dat _, okS_dat _, okS_dat _, g6, g7⟩
      · rintro d3 r3 ρ ⟨b6, b7, rfl, g6, g7, hr⟩ ih3
        have hd3 := fRepr_lv3 (hr d3 List.mem_cons_self)
        simp only [forGo, hd3, true_and, startD, startS, startN, dVar, dVarF, dC, dOp, dTru, truD, dTOp, dIsN, dNotN, dTIsN, dTNotN, dTAnd, dTOr, dTNot, dAnd, dOr, dNot, dIf, dChain, dTChain, dSl, dNoPart, dPart, dNil, dCons, dTup, dLst, dCall, dFn, dFnS, sNil, sSeq, sRet, sDrop, sIf, gN, gNil', gCons', gT, sAsg, sSet, sPar, sAug, sSetO, dSeq, dSrc0, dSrc1, sSrc0, sSrc1, dIsi, fAdd, fSub, fMul, fMod, fDiv, fLt, fLe, fGt, fGe, dI2, dB2, dI2c, fIsB, fNotB, isNonD, fLen, fMax2, fMin2, fInt, fListOf, fTupOf, List.getElem?_cons_zero, List.getElem?_cons_succ, List.set_cons_zero, List.set_cons_succ, List.length_cons, List.length_nil, Bool.not_true, Bool.not_false]
        refine ⟨d3, rfl, d3, rfl, isNet d3, lNet d3, rfl, ?_⟩
        rw [lNet_net]
        simp only [fNe, decide_true, true_and, startD, startS, startN, dVar, dVarF, dC, dOp, dTru, truD, dTOp, dIsN, dNotN, dTIsN, dTNotN, dTAnd, dTOr, dTNot, dAnd, dOr, dNot, dIf, dChain, dTChain, dSl, dNoPart, dPart, dNil, dCons, dTup, dLst, dCall, dFn, dFnS, sNil, sSeq, sRet, sDrop, sIf, gN, gNil', gCons', gT, sAsg, sSet, sPar, sAug, sSetO, dSeq, dSrc0, dSrc1, sSrc0, sSrc1, dIsi, fAdd, fSub, fMul, fMod, fDiv, fLt, fLe, fGt, fGe, dI2, dB2, dI2c, fIsB, fNotB, isNonD, fLen, fMax2, fMin2, fInt, fListOf, fTupOf, List.getElem?_cons_zero, List.getElem?_cons_succ, List.set_cons_zero, List.set_cons_succ, List.length_cons, List.length_nil, Bool.not_true, Bool.not_false]
        exact ih3 _ ⟨_, _, rfl, okS_dat _, okS_dat _, fun d h => hr d (List.mem_cons_of_mem _ h)⟩
      · refine ⟨b6, b7, rfl, g6, g7, fun d hd => ?_⟩
        simp only [List.mem_cons, List.not_mem_nil, or_false] at hd
        rcases hd with rfl | rfl | rfl | rfl | rfl
        · exact .inl (net2_lv3 N2)
        · exact .inl he3
        · exact .inl he4
        · exact .inl he2
        · exact he5
    · exact ⟨a3, a4, a5, a6, a7, rfl, h3, h4, h5, h6, h7⟩
  · exact ⟨none, none, none, none, none, none, rfl, okS_none, okS_none, okS_none, okS_none, okS_none, okS_none, fun d hd => by
      obtain ⟨i, rfl, hi⟩ := rangeD_mem hd
      exact ⟨i, rfl, by omega⟩⟩
end DD

namespace DD
open PySem L2
open PyProof.Rows (envOfC)
structure Blt (mg : Str → Option Value) : Prop where
  b_all : mg "all" = none
  b_bool : mg "bool" = none
  b_int : mg "int" = none
  b_isinstance : mg "isinstance" = none
  b_len : mg "len" = none
  b_list : mg "list" = none
  b_max : mg "max" = none
  b_min : mg "min" = none
  b_range : mg "range" = none
  b_repr : mg "repr" = none
  b_tuple : mg "tuple" = none
  c_GREATEST_LAST : ∃ t, mg "GREATEST_LAST" = some (.int 8 t)
  c_MOST_POINTS : ∃ t, mg "MOST_POINTS" = some (.int 7 t)
  c_MOST_TIES : ∃ t, mg "MOST_TIES" = some (.int 9 t)
section
variable {P : Program} {w : World} {K : Fg} {mg : Str → Option Value} {base : Heap}
theorem ok_is_whole_ (B : Blt mg) (D : DefAt K mg "is_whole" s_is_whole ["value"]) : Cal P w K mg base 1 "is_whole" (spD K 1 f_is_whole) :=
  D.cal fun _ _ F => fun_d0 F sc_is_whole rfl d_is_whole (fun cdv A outer s H E hr hgd => (db_one (ds_ret (de_and (de_isi isi_int rfl B.b_isinstance rfl B.b_int PyProof.Rows.boot_int (de_var (pv 0))) (de_one (de_not (de_isi isi_bool rfl B.b_isinstance rfl B.b_bool PyProof.Rows.boot_bool (de_var (pv 0))))))))) h_is_whole
theorem ok_is_from_to_ (B : Blt mg) (D : DefAt K mg "is_from_to" s_is_from_to ["value", "low", "high"]) (c_is_whole : Cal P w K mg base 1 "is_whole" (spD K 1 f_is_whole)) : Cal P w K mg base 2 "is_from_to" (spD K 3 f_is_from_to) :=
  D.cal fun _ _ F => fun_d0 F sc_is_from_to rfl d_is_from_to (fun cdv A outer s H E hr hgd => (db_one (ds_ret (de_and (de_call c_is_whole hr (by decide) hgd (da_cons (de_var (pv 0)) da_nil)) (de_one (de_lele (de_var (pv 1)) (de_var (pv 0)) (de_var (pv 2)))))))) h_is_from_to
theorem ok_is_tuple_long_ (B : Blt mg) (D : DefAt K mg "is_tuple_long" s_is_tuple_long ["value", "many"]) : Cal P w K mg base 1 "is_tuple_long" (spD K 2 f_is_tuple_long) :=
  D.cal fun _ _ F => fun_d0 F sc_is_tuple_long rfl d_is_tuple_long (fun cdv A outer s H E hr hgd => (db_one (ds_ret (de_and (de_isi isi_tuple rfl B.b_isinstance rfl B.b_tuple PyProof.Rows.boot_tuple (de_var (pv 0))) (de_one (de_eq hr.units (de_len B.b_len (da_cons (de_var (pv 0)) da_nil)) (de_var (pv 1)))))))) h_is_tuple_long
theorem ok_is_stretch_of_ (B : Blt mg) (D : DefAt K mg "is_stretch_of" s_is_stretch_of ["places", "value"]) (c_is_from_to : Cal P w K mg base 2 "is_from_to" (spD K 3 f_is_from_to)) (c_is_tuple_long : Cal P w K mg base 1 "is_tuple_long" (spD K 2 f_is_tuple_long)) : Cal P w K mg base 3 "is_stretch_of" (spD K 2 f_is_stretch_of) :=
  D.cal fun _ _ F => fun_d0 F sc_is_stretch_of rfl d_is_stretch_of (fun cdv A outer s H E hr hgd => (db_cons (ds_if (dt_not (dt_tru (de_call c_is_tuple_long hr (by decide) hgd (da_cons (de_var (pv 1)) (da_cons de_int da_nil))))) (db_one (ds_ret de_bl)) db_nil) (db_cons (ds_asg (de_var (pv 1)) (dg_tup rfl (dgs_cons (dg_name (pg_name (i := 2) sc_is_stretch_of.nd rfl (by first | exact Or.inl rfl | exact Or.inr rfl))) (dgs_cons (dg_name (pg_name (i := 3) sc_is_stretch_of.nd rfl (by first | exact Or.inl rfl | exact Or.inr rfl))) dgs_nil)))) (db_one (ds_ret (de_and (de_call c_is_from_to hr (by decide) hgd (da_cons (de_var (pv 3)) (da_cons de_int (da_cons (de_sub (de_var (pv 0)) de_int) da_nil)))) (de_one (de_call c_is_from_to hr (by decide) hgd (da_cons (de_var (pv 2)) (da_cons de_int (da_cons (de_var (pv 3)) da_nil))))))))))) h_is_stretch_of
theorem ok_is_net_ (B : Blt mg) (D : DefAt K mg "is_net" s_is_net ["value"]) (c_is_from_to : Cal P w K mg base 2 "is_from_to" (spD K 3 f_is_from_to)) (c_is_tuple_long : Cal P w K mg base 1 "is_tuple_long" (spD K 2 f_is_tuple_long)) (c_are_points : Cal P w K mg base 4 "are_points" (spD K 2 f_are_points)) (c_are_ties : Cal P w K mg base 4 "are_ties" (spD K 2 f_are_ties)) : Cal P w K mg base 5 "is_net" (spD K 1 f_is_net) :=
  D.cal fun _ _ F => fun_d0 F sc_is_net rfl d_is_net (fun cdv A outer s H E hr hgd => (db_cons (ds_if (dt_not (dt_tru (de_call c_is_tuple_long hr (by decide) hgd (da_cons (de_var (pv 0)) (da_cons de_int da_nil))))) (db_one (ds_ret de_bl)) db_nil) (db_cons (ds_asg (de_var (pv 0)) (dg_tup rfl (dgs_cons (dg_name (pg_name (i := 1) sc_is_net.nd rfl (by first | exact Or.inl rfl | exact Or.inr rfl))) (dgs_cons (dg_name (pg_name (i := 2) sc_is_net.nd rfl (by first | exact Or.inl rfl | exact Or.inr rfl))) (dgs_cons (dg_name (pg_name (i := 3) sc_is_net.nd rfl (by first | exact Or.inl rfl | exact Or.inr rfl))) dgs_nil))))) (db_one (ds_ret (de_and (de_call c_is_from_to hr (by decide) hgd (da_cons (de_var (pv 1)) (da_cons de_int (da_cons (de_gintE (i := 8) rfl B.c_GREATEST_LAST) da_nil)))) (de_and (de_call c_are_points hr (by decide) hgd (da_cons (de_var (pv 1)) (da_cons (de_var (pv 2)) da_nil))) (de_one (de_call c_are_ties hr (by decide) hgd (da_cons (de_var (pv 2)) (da_cons (de_var (pv 3)) da_nil))))))))))) h_is_net
theorem ok_are_points_ (B : Blt mg) (D : DefAt K mg "are_points" s_are_points ["last", "value"]) (c_is_stretch_of : Cal P w K mg base 3 "is_stretch_of" (spD K 2 f_is_stretch_of)) : Cal P w K mg base 4 "are_points" (spD K 2 f_are_points) :=
  D.cal fun _ _ F => fun_d0 F sc_are_points rfl d_are_points (fun cdv A outer s H E hr hgd => (db_cons (ds_if (DWx.pt (dw_or (dt_not (dt_tru (de_isi isi_tuple rfl B.b_isinstance rfl B.b_tuple PyProof.Rows.boot_tuple (de_var (pv 1))))) (dw_or1 (dt_gt (de_len B.b_len (da_cons (de_var (pv 1)) da_nil)) (de_gintE (i := 7) rfl B.c_MOST_POINTS))))) (db_one (ds_ret de_bl)) db_nil) (db_one (ds_ret (de_all rfl B.b_all (da_cons (de_comp [("life", 2)] rfl sc_are_points.nd (di_seq (de_var (pv 1))) (blkOk_by (N := ["last", "value", "life"]) (sc := defScope s_are_points) (by decide +kernel)) (fun _ _ _ _ _ => (dg_name (pg_name (i := 2) sc_are_points.nd rfl (by first | exact Or.inl rfl | exact Or.inr rfl)))) (fun _ _ _ _ _ => dts_nil) (fun _ _ _ _ _ => (de_call c_is_stretch_of hr (by decide) hgd (da_cons (de_add (de_var (pv 0)) de_int) (da_cons (de_var (pv 2)) da_nil))))) da_nil)))))) h_are_points
theorem ok_are_ties_ (B : Blt mg) (D : DefAt K mg "are_ties" s_are_ties ["points", "value"]) (c_is_tie : Cal P w K mg base 3 "is_tie" (spD K 2 f_is_tie)) : Cal P w K mg base 4 "are_ties" (spD K 2 f_are_ties) :=
  D.cal fun _ _ F => fun_d0 F sc_are_ties rfl d_are_ties (fun cdv A outer s H E hr hgd => (db_cons (ds_if (DWx.pt (dw_or (dt_not (dt_tru (de_isi isi_tuple rfl B.b_isinstance rfl B.b_tuple PyProof.Rows.boot_tuple (de_var (pv 1))))) (dw_or1 (dt_gt (de_len B.b_len (da_cons (de_var (pv 1)) da_nil)) (de_gintE (i := 9) rfl B.c_MOST_TIES))))) (db_one (ds_ret de_bl)) db_nil) (db_one (ds_ret (de_all rfl B.b_all (da_cons (de_comp [("tie", 2)] rfl sc_are_ties.nd (di_seq (de_var (pv 1))) (blkOk_by (N := ["points", "value", "tie"]) (sc := defScope s_are_ties) (by decide +kernel)) (fun _ _ _ _ _ => (dg_name (pg_name (i := 2) sc_are_ties.nd rfl (by first | exact Or.inl rfl | exact Or.inr rfl)))) (fun _ _ _ _ _ => dts_nil) (fun _ _ _ _ _ => (de_call c_is_tie hr (by decide) hgd (da_cons (de_var (pv 0)) (da_cons (de_var (pv 2)) da_nil))))) da_nil)))))) h_are_ties
theorem ok_is_tie_ (B : Blt mg) (D : DefAt K mg "is_tie" s_is_tie ["points", "value"]) (c_is_from_to : Cal P w K mg base 2 "is_from_to" (spD K 3 f_is_from_to)) (c_is_tuple_long : Cal P w K mg base 1 "is_tuple_long" (spD K 2 f_is_tuple_long)) : Cal P w K mg base 3 "is_tie" (spD K 2 f_is_tie) :=
  D.cal fun _ _ F => fun_d0 F sc_is_tie rfl d_is_tie (fun cdv A outer s H E hr hgd => (db_cons (ds_if (dt_not (dt_tru (de_call c_is_tuple_long hr (by decide) hgd (da_cons (de_var (pv 1)) (da_cons de_int da_nil))))) (db_one (ds_ret de_bl)) db_nil) (db_cons (ds_asg (de_var (pv 1)) (dg_tup rfl (dgs_cons (dg_name (pg_name (i := 2) sc_is_tie.nd rfl (by first | exact Or.inl rfl | exact Or.inr rfl))) (dgs_cons (dg_name (pg_name (i := 3) sc_is_tie.nd rfl (by first | exact Or.inl rfl | exact Or.inr rfl))) (dgs_cons (dg_name (pg_name (i := 4) sc_is_tie.nd rfl (by first | exact Or.inl rfl | exact Or.inr rfl))) (dgs_cons (dg_name (pg_name (i := 5) sc_is_tie.nd rfl (by first | exact Or.inl rfl | exact Or.inr rfl))) dgs_nil)))))) (db_cons (ds_if (DWx.pt (dw_or (dt_not (dt_tru (de_call c_is_from_to hr (by decide) hgd (da_cons (de_var (pv 3)) (da_cons de_int (da_cons (de_sub (de_len B.b_len (da_cons (de_var (pv 0)) da_nil)) de_int) da_nil)))))) (dw_or1 (dt_not (dt_tru (de_call c_is_from_to hr (by decide) hgd (da_cons (de_var (pv 2)) (da_cons de_int (da_cons (de_sub (de_var (pv 3)) de_int) da_nil))))))))) (db_one (ds_ret de_bl)) db_nil) (db_cons (ds_set (fun _ h => ps_set (i := 6) sc_is_tie.nd rfl (by first | exact Or.inl rfl | exact Or.inr rfl) h) (de_max2 rfl B.b_max (da_cons (de_ix (de_ix (de_var (pv 0)) (de_var (pv 2))) de_int) (da_cons (de_ix (de_ix (de_var (pv 0)) (de_var (pv 3))) de_int) da_nil)))) (db_cons (ds_set (fun _ h => ps_set (i := 7) sc_is_tie.nd rfl (by first | exact Or.inl rfl | exact Or.inr rfl) h) (de_min2 rfl B.b_min (da_cons (de_ix (de_ix (de_var (pv 0)) (de_var (pv 2))) de_int) (da_cons (de_ix (de_ix (de_var (pv 0)) (de_var (pv 3))) de_int) da_nil)))) (db_one (ds_ret (de_and (de_call c_is_from_to hr (by decide) hgd (da_cons (de_var (pv 4)) (da_cons (de_var (pv 6)) (da_cons (de_var (pv 7)) da_nil)))) (de_one (de_call c_is_from_to hr (by decide) hgd (da_cons (de_var (pv 5)) (da_cons (de_var (pv 4)) (da_cons (de_var (pv 7)) da_nil)))))))))))))) h_is_tie
theorem ok__law_source_ (B : Blt mg) (D : DefAt K mg "_law_source" s__law_source ["_law_script", "_law_start"]) : Cal P w K mg base 1 "_law_source" (spN K ok__law_source) :=
  D.cal fun _ _ F => fun_n0 F sc__law_source rfl (by decide) d__law_source (fun cdv A outer s H E hr hgd => (dn_cons (ds_set (fun _ h => ps_set (i := 2) sc__law_source.nd rfl (by first | exact Or.inl rfl | exact Or.inr rfl) h) (de_add de_int (de_var (pv 1)))) (dn_cons (ds_for PassesOwn.never rfl (di_scr (pv 0)) (dg_name (pg_name (i := 3) sc__law_source.nd rfl (by first | exact Or.inl rfl | exact Or.inr rfl))) (db_one (ds_set (fun _ h => ps_set (i := 2) sc__law_source.nd rfl (by first | exact Or.inl rfl | exact Or.inr rfl) h) (de_add (de_mod (de_intc B.b_int (da_cons (de_pow (de_intc B.b_int (da_cons (de_add (de_mul (de_var (pv 2)) de_int) (de_intc B.b_int (da_cons (de_var (pv 3)) da_nil))) da_nil)) de_int) da_nil)) de_int) de_int)))) (dn_cons (ds_set (fun _ h => ps_set (i := 4) sc__law_source.nd rfl (by first | exact Or.inl rfl | exact Or.inr rfl) h) de_int) (dn_cons (ds_if (DWx.pt (dw_and (dt_lt (de_var (pv 1)) (de_lenO' B.b_len (pv 0))) (dw_and1 (dt_ge (de_scrIx (pv 0) (de_var (pv 1))) (de_pow de_int de_int))))) (db_one (ds_set (fun _ h => ps_set (i := 4) sc__law_source.nd rfl (by first | exact Or.inl rfl | exact Or.inr rfl) h) (de_sub (de_scrIx (pv 0) (de_var (pv 1))) (de_pow de_int de_int)))) db_nil) (dn_ret (da_cons (de_var (pv 4)) (da_cons (de_var (pv 2)) da_nil)))))))) h__law_source
theorem ok__law_draw_ (B : Blt mg) (D : DefAt K mg "_law_draw" s__law_draw ["_law_source_here", "_law_span"]) : Cal P w K mg base 1 "_law_draw" (spS K 2 f__law_draw) :=
  D.cal fun _ _ F => fun_s0 F sc__law_draw rfl (by decide) d__law_draw (fun cdv A outer s H E hr hgd => (db_cons (ds_if (dt_ge (de_src0 (pv 0)) (de_var (pv 1))) (db_cons (ds_set (fun _ h => ps_set (i := 2) sc__law_draw.nd rfl (by first | exact Or.inl rfl | exact Or.inr rfl) h) (de_mod (de_intc B.b_int (da_cons (de_src0 (pv 0)) da_nil)) (de_var (pv 1)))) (db_cons (ds_src0 (pv 0) (de_div (de_src0 (pv 0)) (de_var (pv 1))) fun _ h => ps_asg h (pg_sub (pv 0) pe_int set_list)) (db_one (ds_ret (de_var (pv 2)))))) db_nil) (db_cons (ds_src1 (pv 0) (de_mod (de_intc B.b_int (da_cons (de_add (de_mul (de_src1 (pv 0)) de_int) de_int) da_nil)) de_int) fun _ h => ps_asg h (pg_sub (pv 0) pe_int set_list)) (db_one (ds_ret (de_mod (de_intc B.b_int (da_cons (de_div (de_mod (de_intc B.b_int (da_cons (de_pow (de_intc B.b_int (da_cons (de_src1 (pv 0)) da_nil)) de_int) da_nil)) de_int) de_int) da_nil)) (de_var (pv 1)))))))) h__law_draw
theorem ok__law_pick_ (B : Blt mg) (D : DefAt K mg "_law_pick" s__law_pick ["_law_source_here", "_law_some"]) (c__law_draw : Cal P w K mg base 1 "_law_draw" (spS K 2 f__law_draw)) : Cal P w K mg base 2 "_law_pick" (spS K 2 f__law_pick) :=
  D.cal fun _ _ F => fun_s0 F sc__law_pick rfl (by decide) d__law_pick (fun cdv A outer s H E hr hgd => (db_one (ds_ret (de_ix (de_var (pv 1)) (de_callS c__law_draw hr (by decide) hgd (pv 0) (da_cons (de_len B.b_len (da_cons (de_var (pv 1)) da_nil)) da_nil)))))) h__law_pick
theorem ok__law_mixed_ (B : Blt mg) (D : DefAt K mg "_law_mixed" s__law_mixed ["_law_source_here", "_law_some"]) (c__law_draw : Cal P w K mg base 1 "_law_draw" (spS K 2 f__law_draw)) : Cal P w K mg base 2 "_law_mixed" (spS K 2 f__law_mixed) :=
  D.cal fun _ _ F => fun_s0 F sc__law_mixed rfl (by decide) d__law_mixed (fun cdv A outer s H E hr hgd => (db_cons (ds_parLN (i := 2) (j := 3) (fun _ h => ps_par (i := 2) (j := 3) rfl sc__law_mixed.nd rfl rfl (by decide) rfl rfl h (by rfl)) rfl B.b_list (de_var (pv 1))) (db_cons (ds_while PassesOwn.never (dt_neO hr.units (pv 2) (de_lst da_nil)) (db_one (ds_app (pv 3) (de_pop (pv 2) (de_callS c__law_draw hr (by decide) hgd (pv 0) (da_cons (de_lenO' B.b_len (pv 2)) da_nil)) fun _ h => pe_bm PySem.F.plainAttrs_list PySem.F.slot_list_pop PySem.F.type_list_pop mt_popAt (pv 2) (pa_cons h pa_nil)) (mk := fun _ h => pe_bm PySem.F.plainAttrs_list PySem.F.slot_list_append PySem.F.type_list_append mt_append (pv 3) (pa_cons h pa_nil))))) (db_one (ds_ret (de_varF (pv 3))))))) h__law_mixed
theorem ok__law_life_ (B : Blt mg) (D : DefAt K mg "_law_life" s__law_life ["_law_source_here", "_law_low", "_law_high", "_law_stays_on"]) (c__law_draw : Cal P w K mg base 1 "_law_draw" (spS K 2 f__law_draw)) : Cal P w K mg base 2 "_law_life" (spS K 4 f__law_life) :=
  D.cal fun _ _ F => fun_s0 F sc__law_life rfl (by decide) d__law_life (fun cdv A outer s H E hr hgd => (db_cons (ds_set (fun _ h => ps_set (i := 4) sc__law_life.nd rfl (by first | exact Or.inl rfl | exact Or.inr rfl) h) (de_add (de_var (pv 1)) (de_callS c__law_draw hr (by decide) hgd (pv 0) (da_cons (de_add (de_sub (de_var (pv 2)) (de_var (pv 1))) de_int) da_nil)))) (db_cons (ds_set (fun _ h => ps_set (i := 5) sc__law_life.nd rfl (by first | exact Or.inl rfl | exact Or.inr rfl) h) (de_add (de_var (pv 4)) (de_callS c__law_draw hr (by decide) hgd (pv 0) (da_cons (de_add (de_sub (de_var (pv 2)) (de_var (pv 4))) de_int) da_nil)))) (db_cons (ds_if (dt_tru (de_var (pv 3))) (db_cons (ds_par (i := 4) (j := 5) (fun _ h => ps_par (i := 4) (j := 5) rfl sc__law_life.nd rfl rfl (by decide) rfl rfl h (by rfl)) (da_cons (de_add (de_var (pv 1)) (de_callS c__law_draw hr (by decide) hgd (pv 0) (da_cons (de_min2 rfl B.b_min (da_cons de_int (da_cons (de_add (de_sub (de_var (pv 2)) (de_var (pv 1))) de_int) da_nil))) da_nil))) (da_cons (de_var (pv 2)) da_nil))) (db_one (ds_set (fun _ h => ps_set (i := 5) sc__law_life.nd rfl (by first | exact Or.inl rfl | exact Or.inr rfl) h) (de_max2 rfl B.b_max (da_cons (de_var (pv 4)) (da_cons (de_sub (de_var (pv 5)) (de_callS c__law_draw hr (by decide) hgd (pv 0) (da_cons de_int da_nil))) da_nil)))))) db_nil) (db_one (ds_ret (de_tup (da_cons (de_var (pv 4)) (da_cons (de_var (pv 5)) da_nil))))))))) h__law_life
theorem ok__law_ties_ (B : Blt mg) (D : DefAt K mg "_law_ties" s__law_ties ["_law_source_here", "_law_points", "_law_pairs", "_law_many", "_law_grows"]) (c__law_draw : Cal P w K mg base 1 "_law_draw" (spS K 2 f__law_draw)) (c__law_pick : Cal P w K mg base 2 "_law_pick" (spS K 2 f__law_pick)) (c__law_life : Cal P w K mg base 2 "_law_life" (spS K 4 f__law_life)) : Cal P w K mg base 3 "_law_ties" (spS K 5 f__law_ties) :=
  D.cal fun _ _ F => fun_s0 F sc__law_ties rfl (by decide) d__law_ties (fun cdv A outer s H E hr hgd => (db_cons (ds_setO (fun _ h => ps_set (i := 5) sc__law_ties.nd rfl (by first | exact Or.inl rfl | exact Or.inr rfl) h) da_nil) (db_cons (ds_for PassesOwn.never rfl (di_range1 rfl B.b_range (de_var (pv 3))) (dg_name (pg_name (i := 6) sc__law_ties.nd rfl (by first | exact Or.inl rfl | exact Or.inr rfl))) (db_cons (ds_asg (de_callS c__law_pick hr (by decide) hgd (pv 0) (da_cons (de_var (pv 2)) da_nil)) (dg_tup rfl (dgs_cons (dg_name (pg_name (i := 7) sc__law_ties.nd rfl (by first | exact Or.inl rfl | exact Or.inr rfl))) (dgs_cons (dg_name (pg_name (i := 8) sc__law_ties.nd rfl (by first | exact Or.inl rfl | exact Or.inr rfl))) dgs_nil)))) (db_cons (ds_set (fun _ h => ps_set (i := 9) sc__law_ties.nd rfl (by first | exact Or.inl rfl | exact Or.inr rfl) h) (de_max2 rfl B.b_max (da_cons (de_ix (de_ix (de_var (pv 1)) (de_var (pv 7))) de_int) (da_cons (de_ix (de_ix (de_var (pv 1)) (de_var (pv 8))) de_int) da_nil)))) (db_cons (ds_set (fun _ h => ps_set (i := 10) sc__law_ties.nd rfl (by first | exact Or.inl rfl | exact Or.inr rfl) h) (de_min2 rfl B.b_min (da_cons (de_ix (de_ix (de_var (pv 1)) (de_var (pv 7))) de_int) (da_cons (de_ix (de_ix (de_var (pv 1)) (de_var (pv 8))) de_int) da_nil)))) (db_one (ds_if (dt_le (de_var (pv 9)) (de_var (pv 10))) (db_cons (ds_asg (de_callS c__law_life hr (by decide) hgd (pv 0) (da_cons (de_var (pv 9)) (da_cons (de_var (pv 10)) (da_cons (de_eq hr.units (de_callS c__law_draw hr (by decide) hgd (pv 0) (da_cons de_int da_nil)) de_int) da_nil)))) (dg_tup rfl (dgs_cons (dg_name (pg_name (i := 11) sc__law_ties.nd rfl (by first | exact Or.inl rfl | exact Or.inr rfl))) (dgs_cons (dg_name (pg_name (i := 12) sc__law_ties.nd rfl (by first | exact Or.inl rfl | exact Or.inr rfl))) dgs_nil)))) (db_one (ds_app (pv 5) (de_tup (da_cons (de_var (pv 7)) (da_cons (de_var (pv 8)) (da_cons (de_var (pv 11)) (da_cons (de_if (dt_tru (de_var (pv 4))) (de_var (pv 10)) (de_var (pv 12))) da_nil))))) (mk := fun _ h => pe_bm PySem.F.plainAttrs_list PySem.F.slot_list_append PySem.F.type_list_append mt_append (pv 5) (pa_cons h pa_nil))))) db_nil)))))) (db_one (ds_ret (de_tuple B.b_tuple (da_cons (de_varF (pv 5)) da_nil))))))) h__law_ties
theorem ok__law_net_ (B : Blt mg) (D : DefAt K mg "_law_net" s__law_net ["_law_source_here", "_law_most", "_law_days", "_law_grows"]) (c__law_draw : Cal P w K mg base 1 "_law_draw" (spS K 2 f__law_draw)) (c__law_mixed : Cal P w K mg base 2 "_law_mixed" (spS K 2 f__law_mixed)) (c__law_life : Cal P w K mg base 2 "_law_life" (spS K 4 f__law_life)) (c__law_ties : Cal P w K mg base 3 "_law_ties" (spS K 5 f__law_ties)) : Cal P w K mg base 4 "_law_net" (spS K 4 f__law_net) :=
  D.cal fun _ _ F => fun_s0 F sc__law_net rfl (by decide) d__law_net (fun cdv A outer s H E hr hgd => (db_cons (ds_asg (de_tup (da_cons (de_callS c__law_draw hr (by decide) hgd (pv 0) (da_cons (de_var (pv 2)) da_nil)) (da_cons (de_callS c__law_draw hr (by decide) hgd (pv 0) (da_cons de_int da_nil)) da_nil))) (dg_tup rfl (dgs_cons (dg_name (pg_name (i := 4) sc__law_net.nd rfl (by first | exact Or.inl rfl | exact Or.inr rfl))) (dgs_cons (dg_name (pg_name (i := 5) sc__law_net.nd rfl (by first | exact Or.inl rfl | exact Or.inr rfl))) dgs_nil)))) (db_cons (ds_setLc (i := 6) [("_law_turn", 7)] rfl sc__law_net.nd rfl rfl (sw_true rfl rfl rfl (by decide +kernel)) (di_range1 rfl B.b_range (de_add de_int (de_max2 rfl B.b_max (da_cons (de_callS c__law_draw hr (by decide) hgd (pv 0) (da_cons (de_var (pv 1)) da_nil)) (da_cons (de_var (pv 5)) da_nil))))) (blkOk_by (N := ["_law_source_here", "_law_most", "_law_days", "_law_grows", "_law_last", "_law_kind", "_law_points", "_law_turn", "_law_first", "_law_end", "_law_pairs", "_law_other", "_law_one"]) (sc := defScope s__law_net) (by decide +kernel)) (fun _ _ _ _ _ => (dg_name (pg_name (i := 7) sc__law_net.nd rfl (by first | exact Or.inl rfl | exact Or.inr rfl)))) (fun _ _ _ _ _ => dts_nil) (fun _ _ _ _ _ => (de_callS c__law_life hr (by decide) hgd (pv 0) (da_cons de_int (da_cons (de_var (pv 4)) (da_cons (de_gt (de_var (pv 5)) de_int) da_nil)))))) (db_cons (ds_if (dt_tru (de_var (pv 3))) (db_one (ds_setLc (i := 6) [("_law_first", 8), ("_law_end", 9)] rfl sc__law_net.nd rfl rfl (sw_true rfl rfl rfl (by decide +kernel)) (di_seq (de_var (pv 6))) (blkOk_by (N := ["_law_source_here", "_law_most", "_law_days", "_law_grows", "_law_last", "_law_kind", "_law_points", "_law_turn", "_law_first", "_law_end", "_law_pairs", "_law_other", "_law_one"]) (sc := defScope s__law_net) (by decide +kernel)) (fun _ _ _ _ _ => (dg_tup rfl (dgs_cons (dg_name (pg_name (i := 8) sc__law_net.nd rfl (by first | exact Or.inl rfl | exact Or.inr rfl))) (dgs_cons (dg_name (pg_name (i := 9) sc__law_net.nd rfl (by first | exact Or.inl rfl | exact Or.inr rfl))) dgs_nil)))) (fun _ _ _ _ _ => dts_nil) (fun _ _ _ _ _ => (de_tup (da_cons (de_var (pv 8)) (da_cons (de_var (pv 4)) da_nil)))))) db_nil) (db_cons (ds_set (fun _ h => ps_set (i := 10) sc__law_net.nd rfl (by first | exact Or.inl rfl | exact Or.inr rfl) h) (de_lst da_nil)) (db_cons (ds_for PassesOwn.never rfl (di_range1 rfl B.b_range (de_len B.b_len (da_cons (de_var (pv 6)) da_nil))) (dg_name (pg_name (i := 11) sc__law_net.nd rfl (by first | exact Or.inl rfl | exact Or.inr rfl))) (db_one (ds_set (fun _ h => ps_set (i := 10) sc__law_net.nd rfl (by first | exact Or.inl rfl | exact Or.inr rfl) h) (de_add (de_var (pv 10)) (de_comp [("_law_one", 12)] rfl sc__law_net.nd (di_range1 rfl B.b_range (de_var (pv 11))) (blkOk_by (N := ["_law_source_here", "_law_most", "_law_days", "_law_grows", "_law_last", "_law_kind", "_law_points", "_law_turn", "_law_first", "_law_end", "_law_pairs", "_law_other", "_law_one"]) (sc := defScope s__law_net) (by decide +kernel)) (fun _ _ _ _ _ => (dg_name (pg_name (i := 12) sc__law_net.nd rfl (by first | exact Or.inl rfl | exact Or.inr rfl)))) (fun _ _ _ _ _ => dts_nil) (fun _ _ _ _ _ => (de_tup (da_cons (de_var (pv 12)) (da_cons (de_var (pv 11)) da_nil))))))))) (db_cons (ds_if (dt_eq hr.units (de_var (pv 10)) (de_lst da_nil)) (db_one (ds_ret (de_tup (da_cons (de_var (pv 4)) (da_cons (de_tuple B.b_tuple (da_cons (de_var (pv 6)) da_nil)) (da_cons (de_tup da_nil) da_nil)))))) db_nil) (db_cons (ds_set (fun _ h => ps_set (i := 10) sc__law_net.nd rfl (by first | exact Or.inl rfl | exact Or.inr rfl) h) (de_sl (de_callS c__law_mixed hr (by decide) hgd (pv 0) (da_cons (de_var (pv 10)) da_nil)) dp_none (dp_some (de_add de_int (de_callS c__law_draw hr (by decide) hgd (pv 0) (da_cons de_int da_nil)))))) (db_one (ds_ret (de_tup (da_cons (de_var (pv 4)) (da_cons (de_tuple B.b_tuple (da_cons (de_var (pv 6)) da_nil)) (da_cons (de_callS c__law_ties hr (by decide) hgd (pv 0) (da_cons (de_var (pv 6)) (da_cons (de_var (pv 10)) (da_cons (de_callS c__law_draw hr (by decide) hgd (pv 0) (da_cons de_int da_nil)) (da_cons (de_var (pv 3)) da_nil))))) da_nil)))))))))))))) h__law_net
theorem ok__law_same_ (B : Blt mg) (D : DefAt K mg "_law_same" s__law_same ["_law_told", "_law_due"]) : Cal P w K mg base 1 "_law_same" (spD K 2 f__law_same) :=
  D.cal fun _ _ F => fun_d0 F sc__law_same rfl d__law_same (fun cdv A outer s H E hr hgd => (db_one (ds_ret (de_eq hr.units (de_repr hgd hr.units B.b_repr (da_cons (de_var (pv 0)) da_nil)) (de_repr hgd hr.units B.b_repr (da_cons (de_var (pv 1)) da_nil)))))) h__law_same
theorem ok__law_odd_ (B : Blt mg) (D : DefAt K mg "_law_odd" s__law_odd ["_law_source_here"]) (c__law_pick : Cal P w K mg base 2 "_law_pick" (spS K 2 f__law_pick)) : Cal P w K mg base 3 "_law_odd" (spS K 1 f__law_odd) :=
  D.cal fun _ _ F => fun_s0 F sc__law_odd rfl (by decide) d__law_odd (fun cdv A outer s H E hr hgd => (db_cons (ds_set (fun _ h => ps_set (i := 1) sc__law_odd.nd rfl (by first | exact Or.inl rfl | exact Or.inr rfl) h) (de_lst (da_cons de_non (da_cons de_str (da_cons de_str (da_cons (de_tup da_nil) (da_cons (de_lst da_nil) (da_cons de_dnew (da_cons de_bl (da_cons de_bl (da_cons (de_tup (da_cons de_int da_nil)) (da_cons (de_lst (da_cons de_int da_nil)) (da_cons (de_pow de_int de_int) (da_cons (de_sub de_int de_int) da_nil)))))))))))))) (db_one (ds_ret (de_callS c__law_pick hr (by decide) hgd (pv 0) (da_cons (de_add (de_var (pv 1)) (de_lst (da_cons (de_tup (da_cons de_str da_nil)) (da_cons (de_tup (da_cons de_non (da_cons de_int da_nil))) da_nil)))) da_nil)))))) h__law_odd
theorem ok__law_odd_net_ (B : Blt mg) (D : DefAt K mg "_law_odd_net" s__law_odd_net ["_law_source_here"]) (c__law_pick : Cal P w K mg base 2 "_law_pick" (spS K 2 f__law_pick)) : Cal P w K mg base 3 "_law_odd_net" (spS K 1 f__law_odd_net) :=
  D.cal fun _ _ F => fun_s0 F sc__law_odd_net rfl (by decide) d__law_odd_net (fun cdv A outer s H E hr hgd => (db_cons (ds_set (fun _ h => ps_set (i := 1) sc__law_odd_net.nd rfl (by first | exact Or.inl rfl | exact Or.inr rfl) h) (de_lst (da_cons de_non (da_cons de_int (da_cons (de_tup da_nil) (da_cons (de_tup (da_cons de_int (da_cons (de_tup da_nil) (da_cons (de_tup da_nil) (da_cons (de_tup da_nil) da_nil))))) (da_cons (de_tup (da_cons de_int (da_cons (de_tup da_nil) da_nil))) (da_cons (de_lst (da_cons de_int (da_cons (de_tup da_nil) (da_cons (de_tup da_nil) da_nil)))) (da_cons (de_tup (da_cons de_int (da_cons (de_tup da_nil) (da_cons (de_tup da_nil) da_nil)))) (da_cons (de_tup (da_cons de_bl (da_cons (de_tup da_nil) (da_cons (de_tup da_nil) da_nil)))) (da_cons (de_tup (da_cons de_int (da_cons (de_lst da_nil) (da_cons (de_tup da_nil) da_nil)))) (da_cons (de_tup (da_cons de_int (da_cons (de_tup da_nil) (da_cons (de_lst da_nil) da_nil)))) da_nil)))))))))))) (db_cons (ds_set (fun _ h => ps_set (i := 1) sc__law_odd_net.nd rfl (by first | exact Or.inl rfl | exact Or.inr rfl) h) (de_add (de_var (pv 1)) (de_lst (da_cons (de_tup (da_cons de_int (da_cons (de_tup (da_cons (de_tup (da_cons de_int (da_cons de_int da_nil))) da_nil)) (da_cons (de_tup da_nil) da_nil)))) (da_cons (de_tup (da_cons de_int (da_cons (de_tup (da_cons (de_tup (da_cons de_int (da_cons de_int da_nil))) da_nil)) (da_cons (de_tup da_nil) da_nil)))) (da_cons (de_tup (da_cons de_int (da_cons (de_mul (de_tup (da_cons (de_tup (da_cons de_int (da_cons de_int da_nil))) da_nil)) de_int) (da_cons (de_tup da_nil) da_nil)))) da_nil)))))) (db_cons (ds_set (fun _ h => ps_set (i := 1) sc__law_odd_net.nd rfl (by first | exact Or.inl rfl | exact Or.inr rfl) h) (de_add (de_var (pv 1)) (de_lst (da_cons (de_tup (da_cons de_int (da_cons (de_tup (da_cons (de_tup (da_cons de_int (da_cons de_int da_nil))) (da_cons (de_tup (da_cons de_int (da_cons de_int da_nil))) da_nil))) (da_cons (de_tup (da_cons (de_tup (da_cons de_int (da_cons de_int (da_cons de_int (da_cons de_int da_nil))))) da_nil)) da_nil)))) (da_cons (de_tup (da_cons de_int (da_cons (de_tup (da_cons (de_tup (da_cons de_int (da_cons de_int da_nil))) da_nil)) (da_cons (de_tup (da_cons (de_tup (da_cons de_int (da_cons de_int (da_cons de_int (da_cons de_int da_nil))))) da_nil)) da_nil)))) da_nil))))) (db_cons (ds_set (fun _ h => ps_set (i := 1) sc__law_odd_net.nd rfl (by first | exact Or.inl rfl | exact Or.inr rfl) h) (de_add (de_var (pv 1)) (de_lst (da_cons (de_tup (da_cons de_int (da_cons (de_tup (da_cons (de_tup (da_cons de_int (da_cons de_int da_nil))) (da_cons (de_tup (da_cons de_int (da_cons de_int da_nil))) da_nil))) (da_cons (de_tup (da_cons (de_tup (da_cons de_int (da_cons de_int (da_cons de_int (da_cons de_int da_nil))))) da_nil)) da_nil)))) (da_cons de_str (da_cons de_dict1t (da_cons (de_tup (da_cons (de_sub de_int de_int) (da_cons (de_tup da_nil) (da_cons (de_tup da_nil) da_nil)))) (da_cons (de_tup (da_cons de_bl (da_cons (de_tup da_nil) (da_cons (de_tup da_nil) da_nil)))) da_nil)))))))) (db_one (ds_ret (de_callS c__law_pick hr (by decide) hgd (pv 0) (da_cons (de_var (pv 1)) da_nil))))))))) h__law_odd_net
theorem ok__law_is_number_ (B : Blt mg) (D : DefAt K mg "_law_is_number" s__law_is_number ["_law_value", "_law_low", "_law_high"]) : Cal P w K mg base 1 "_law_is_number" (spD K 3 f__law_is_number) :=
  D.cal fun _ _ F => fun_d0 F sc__law_is_number rfl d__law_is_number (fun cdv A outer s H E hr hgd => (db_one (ds_ret (de_and (de_isi isi_int rfl B.b_isinstance rfl B.b_int PyProof.Rows.boot_int (de_var (pv 0))) (de_and (de_not (de_isi isi_bool rfl B.b_isinstance rfl B.b_bool PyProof.Rows.boot_bool (de_var (pv 0)))) (de_one (de_lele (de_var (pv 1)) (de_var (pv 0)) (de_var (pv 2))))))))) h__law_is_number
theorem ok__law_is_life_ (B : Blt mg) (D : DefAt K mg "_law_is_life" s__law_is_life ["_law_value", "_law_low", "_law_high"]) (c__law_is_number : Cal P w K mg base 1 "_law_is_number" (spD K 3 f__law_is_number)) : Cal P w K mg base 2 "_law_is_life" (spD K 3 f__law_is_life) :=
  D.cal fun _ _ F => fun_d0 F sc__law_is_life rfl d__law_is_life (fun cdv A outer s H E hr hgd => (db_cons (ds_if (DWx.pt (dw_or (dt_not (dt_tru (de_isi isi_tuple rfl B.b_isinstance rfl B.b_tuple PyProof.Rows.boot_tuple (de_var (pv 0))))) (dw_or1 (dt_ne hr.units (de_len B.b_len (da_cons (de_var (pv 0)) da_nil)) de_int)))) (db_one (ds_ret de_bl)) db_nil) (db_one (ds_ret (de_and (de_call c__law_is_number hr (by decide) hgd (da_cons (de_ix (de_var (pv 0)) de_int) (da_cons (de_var (pv 1)) (da_cons (de_var (pv 2)) da_nil)))) (de_one (de_call c__law_is_number hr (by decide) hgd (da_cons (de_ix (de_var (pv 0)) de_int) (da_cons (de_ix (de_var (pv 0)) de_int) (da_cons (de_var (pv 2)) da_nil)))))))))) h__law_is_life
theorem ok__law_is_tie_ (B : Blt mg) (D : DefAt K mg "_law_is_tie" s__law_is_tie ["_law_value", "_law_points"]) (c__law_is_number : Cal P w K mg base 1 "_law_is_number" (spD K 3 f__law_is_number)) (c__law_is_life : Cal P w K mg base 2 "_law_is_life" (spD K 3 f__law_is_life)) : Cal P w K mg base 3 "_law_is_tie" (spD K 2 f__law_is_tie) :=
  D.cal fun _ _ F => fun_d0 F sc__law_is_tie rfl d__law_is_tie (fun cdv A outer s H E hr hgd => (db_cons (ds_if (DWx.pt (dw_or (dt_not (dt_tru (de_isi isi_tuple rfl B.b_isinstance rfl B.b_tuple PyProof.Rows.boot_tuple (de_var (pv 0))))) (dw_or (dt_ne hr.units (de_len B.b_len (da_cons (de_var (pv 0)) da_nil)) de_int) (dw_or1 (dt_not (dt_tru (de_call c__law_is_number hr (by decide) hgd (da_cons (de_ix (de_var (pv 0)) de_int) (da_cons de_int (da_cons (de_sub (de_len B.b_len (da_cons (de_var (pv 1)) da_nil)) de_int) da_nil)))))))))) (db_one (ds_ret de_bl)) db_nil) (db_cons (ds_if (dt_not (dt_tru (de_call c__law_is_number hr (by decide) hgd (da_cons (de_ix (de_var (pv 0)) de_int) (da_cons de_int (da_cons (de_sub (de_ix (de_var (pv 0)) de_int) de_int) da_nil)))))) (db_one (ds_ret de_bl)) db_nil) (db_cons (ds_par (i := 2) (j := 3) (fun _ h => ps_par (i := 2) (j := 3) rfl sc__law_is_tie.nd rfl rfl (by decide) rfl rfl h (by rfl)) (da_cons (de_ix (de_var (pv 1)) (de_ix (de_var (pv 0)) de_int)) (da_cons (de_ix (de_var (pv 1)) (de_ix (de_var (pv 0)) de_int)) da_nil))) (db_one (ds_ret (de_call c__law_is_life hr (by decide) hgd (da_cons (de_sl (de_var (pv 0)) (dp_some de_int) dp_none) (da_cons (de_max2 rfl B.b_max (da_cons (de_ix (de_var (pv 2)) de_int) (da_cons (de_ix (de_var (pv 3)) de_int) da_nil))) (da_cons (de_min2 rfl B.b_min (da_cons (de_ix (de_var (pv 2)) de_int) (da_cons (de_ix (de_var (pv 3)) de_int) da_nil))) da_nil)))))))))) h__law_is_tie
theorem ok__law_is_net_ (B : Blt mg) (D : DefAt K mg "_law_is_net" s__law_is_net ["_law_value"]) (c__law_is_number : Cal P w K mg base 1 "_law_is_number" (spD K 3 f__law_is_number)) (c__law_is_life : Cal P w K mg base 2 "_law_is_life" (spD K 3 f__law_is_life)) (c__law_is_tie : Cal P w K mg base 3 "_law_is_tie" (spD K 2 f__law_is_tie)) : Cal P w K mg base 4 "_law_is_net" (spD K 1 f__law_is_net) :=
  D.cal fun _ _ F => fun_d0 F sc__law_is_net rfl d__law_is_net (fun cdv A outer s H E hr hgd => (db_cons (ds_if (DWx.pt (dw_or (dt_not (dt_tru (de_isi isi_tuple rfl B.b_isinstance rfl B.b_tuple PyProof.Rows.boot_tuple (de_var (pv 0))))) (dw_or (dt_ne hr.units (de_len B.b_len (da_cons (de_var (pv 0)) da_nil)) de_int) (dw_or1 (dt_not (dt_tru (de_call c__law_is_number hr (by decide) hgd (da_cons (de_ix (de_var (pv 0)) de_int) (da_cons de_int (da_cons de_int da_nil)))))))))) (db_one (ds_ret de_bl)) db_nil) (db_cons (ds_if (DWx.pt (dw_or (dt_not (dt_tru (de_isi isi_tuple rfl B.b_isinstance rfl B.b_tuple PyProof.Rows.boot_tuple (de_ix (de_var (pv 0)) de_int)))) (dw_or (dt_gt (de_len B.b_len (da_cons (de_ix (de_var (pv 0)) de_int) da_nil)) de_int) (dw_or (dt_not (dt_tru (de_isi isi_tuple rfl B.b_isinstance rfl B.b_tuple PyProof.Rows.boot_tuple (de_ix (de_var (pv 0)) de_int)))) (dw_or1 (dt_gt (de_len B.b_len (da_cons (de_ix (de_var (pv 0)) de_int) da_nil)) de_int)))))) (db_one (ds_ret de_bl)) db_nil) (db_cons (ds_if (dt_ne hr.units (de_comp [("_law_life_here", 1)] rfl sc__law_is_net.nd (di_seq (de_ix (de_var (pv 0)) de_int)) (blkOk_by (N := ["_law_value", "_law_life_here", "_law_tie"]) (sc := defScope s__law_is_net) (by decide +kernel)) (fun _ _ _ _ _ => (dg_name (pg_name (i := 1) sc__law_is_net.nd rfl (by first | exact Or.inl rfl | exact Or.inr rfl)))) (fun _ _ _ _ _ => (dts_one (dt_not (dt_tru (de_call c__law_is_life hr (by decide) hgd (da_cons (de_var (pv 1)) (da_cons de_int (da_cons (de_ix (de_var (pv 0)) de_int) da_nil)))))))) (fun _ _ _ _ _ => de_int)) (de_lst da_nil)) (db_one (ds_ret de_bl)) db_nil) (db_one (ds_ret (de_eq hr.units (de_comp [("_law_tie", 2)] rfl sc__law_is_net.nd (di_seq (de_ix (de_var (pv 0)) de_int)) (blkOk_by (N := ["_law_value", "_law_life_here", "_law_tie"]) (sc := defScope s__law_is_net) (by decide +kernel)) (fun _ _ _ _ _ => (dg_name (pg_name (i := 2) sc__law_is_net.nd rfl (by first | exact Or.inl rfl | exact Or.inr rfl)))) (fun _ _ _ _ _ => (dts_one (dt_not (dt_tru (de_call c__law_is_tie hr (by decide) hgd (da_cons (de_var (pv 2)) (da_cons (de_ix (de_var (pv 0)) de_int) da_nil))))))) (fun _ _ _ _ _ => de_int)) (de_lst da_nil)))))))) h__law_is_net
theorem ok__law_put_ (B : Blt mg) (D : DefAt K mg "_law_put" s__law_put ["_law_row", "_law_at", "_law_thing"]) : Cal P w K mg base 1 "_law_put" (spD K 3 f__law_put) :=
  D.cal fun _ _ F => fun_d0 F sc__law_put rfl d__law_put (fun cdv A outer s H E hr hgd => (db_one (ds_ret (de_add (de_add (de_sl (de_var (pv 0)) dp_none (dp_some (de_var (pv 1)))) (de_tup (da_cons (de_var (pv 2)) da_nil))) (de_sl (de_var (pv 0)) (dp_some (de_add (de_var (pv 1)) de_int)) dp_none))))) h__law_put
theorem ok__law_bent_point_ (B : Blt mg) (D : DefAt K mg "_law_bent_point" s__law_bent_point ["_law_source_here", "_law_net_here"]) (c__law_draw : Cal P w K mg base 1 "_law_draw" (spS K 2 f__law_draw)) (c__law_pick : Cal P w K mg base 2 "_law_pick" (spS K 2 f__law_pick)) (c__law_put : Cal P w K mg base 1 "_law_put" (spD K 3 f__law_put)) : Cal P w K mg base 3 "_law_bent_point" (spS K 2 f__law_bent_point) :=
  D.cal fun _ _ F => fun_s0 F sc__law_bent_point rfl (by decide) d__law_bent_point (fun cdv A outer s H E hr hgd => (db_cons (ds_asg (de_var (pv 1)) (dg_tup rfl (dgs_cons (dg_name (pg_name (i := 2) sc__law_bent_point.nd rfl (by first | exact Or.inl rfl | exact Or.inr rfl))) (dgs_cons (dg_name (pg_name (i := 3) sc__law_bent_point.nd rfl (by first | exact Or.inl rfl | exact Or.inr rfl))) (dgs_cons (dg_name (pg_name (i := 4) sc__law_bent_point.nd rfl (by first | exact Or.inl rfl | exact Or.inr rfl))) dgs_nil))))) (db_cons (ds_set (fun _ h => ps_set (i := 5) sc__law_bent_point.nd rfl (by first | exact Or.inl rfl | exact Or.inr rfl) h) (de_callS c__law_draw hr (by decide) hgd (pv 0) (da_cons (de_add (de_len B.b_len (da_cons (de_var (pv 3)) da_nil)) de_int) da_nil))) (db_cons (ds_set (fun _ h => ps_set (i := 6) sc__law_bent_point.nd rfl (by first | exact Or.inl rfl | exact Or.inr rfl) h) (de_lst (da_cons de_non (da_cons (de_tup (da_cons de_int da_nil)) (da_cons (de_tup (da_cons de_int (da_cons de_int da_nil))) (da_cons (de_lst (da_cons de_int (da_cons de_int da_nil))) (da_cons (de_tup (da_cons de_int (da_cons (de_add (de_var (pv 2)) de_int) da_nil))) (da_cons (de_tup (da_cons (de_sub de_int de_int) (da_cons de_int da_nil))) (da_cons (de_tup (da_cons de_int (da_cons de_int (da_cons de_int da_nil)))) (da_cons de_str (da_cons (de_tup (da_cons de_int (da_cons de_non da_nil))) (da_cons (de_tup (da_cons de_bl (da_cons de_int da_nil))) (da_cons (de_tup (da_cons de_int (da_cons de_bl da_nil))) da_nil))))))))))))) (db_one (ds_ret (de_tup (da_cons (de_var (pv 2)) (da_cons (de_call c__law_put hr (by decide) hgd (da_cons (de_var (pv 3)) (da_cons (de_var (pv 5)) (da_cons (de_callS c__law_pick hr (by decide) hgd (pv 0) (da_cons (de_add (de_var (pv 6)) (de_lst (da_cons (de_tup (da_cons (de_var (pv 2)) (da_cons (de_var (pv 2)) da_nil))) (da_cons (de_tup (da_cons de_int (da_cons (de_var (pv 2)) da_nil))) (da_cons (de_tup (da_cons de_int (da_cons de_int da_nil))) da_nil))))) da_nil)) da_nil)))) (da_cons (de_var (pv 4)) da_nil)))))))))) h__law_bent_point
theorem ok__law_bent_tie_ (B : Blt mg) (D : DefAt K mg "_law_bent_tie" s__law_bent_tie ["_law_source_here", "_law_net_here"]) (c__law_draw : Cal P w K mg base 1 "_law_draw" (spS K 2 f__law_draw)) (c__law_pick : Cal P w K mg base 2 "_law_pick" (spS K 2 f__law_pick)) (c__law_put : Cal P w K mg base 1 "_law_put" (spD K 3 f__law_put)) : Cal P w K mg base 3 "_law_bent_tie" (spS K 2 f__law_bent_tie) :=
  D.cal fun _ _ F => fun_s0 F sc__law_bent_tie rfl (by decide) d__law_bent_tie (fun cdv A outer s H E hr hgd => (db_cons (ds_asg (de_var (pv 1)) (dg_tup rfl (dgs_cons (dg_name (pg_name (i := 2) sc__law_bent_tie.nd rfl (by first | exact Or.inl rfl | exact Or.inr rfl))) (dgs_cons (dg_name (pg_name (i := 3) sc__law_bent_tie.nd rfl (by first | exact Or.inl rfl | exact Or.inr rfl))) (dgs_cons (dg_name (pg_name (i := 4) sc__law_bent_tie.nd rfl (by first | exact Or.inl rfl | exact Or.inr rfl))) dgs_nil))))) (db_cons (ds_par (i := 5) (j := 6) (fun _ h => ps_par (i := 5) (j := 6) rfl sc__law_bent_tie.nd rfl rfl (by decide) rfl rfl h (by rfl)) (da_cons (de_callS c__law_draw hr (by decide) hgd (pv 0) (da_cons (de_add (de_len B.b_len (da_cons (de_var (pv 4)) da_nil)) de_int) da_nil)) (da_cons (de_len B.b_len (da_cons (de_var (pv 3)) da_nil)) da_nil))) (db_cons (ds_set (fun _ h => ps_set (i := 7) sc__law_bent_tie.nd rfl (by first | exact Or.inl rfl | exact Or.inr rfl) h) (de_lst (da_cons de_non (da_cons (de_tup (da_cons de_int (da_cons de_int da_nil))) (da_cons (de_tup (da_cons de_int (da_cons de_int (da_cons de_int da_nil)))) (da_cons (de_lst (da_cons de_int (da_cons de_int (da_cons de_int (da_cons de_int da_nil))))) (da_cons (de_tup (da_cons de_int (da_cons de_int (da_cons de_int (da_cons de_int da_nil))))) (da_cons (de_tup (da_cons de_int (da_cons de_int (da_cons de_int (da_cons de_int da_nil))))) (da_cons (de_tup (da_cons de_int (da_cons (de_var (pv 6)) (da_cons de_int (da_cons de_int da_nil))))) (da_cons (de_tup (da_cons (de_sub de_int de_int) (da_cons de_int (da_cons de_int (da_cons de_int da_nil))))) (da_cons de_int da_nil))))))))))) (db_cons (ds_set (fun _ h => ps_set (i := 7) sc__law_bent_tie.nd rfl (by first | exact Or.inl rfl | exact Or.inr rfl) h) (de_add (de_var (pv 7)) (de_lst (da_cons (de_tup (da_cons de_int (da_cons de_int (da_cons de_int (da_cons (de_add (de_var (pv 2)) de_int) da_nil))))) (da_cons (de_tup (da_cons de_int (da_cons de_int (da_cons (de_var (pv 2)) (da_cons de_int da_nil))))) (da_cons (de_tup (da_cons de_bl (da_cons de_bl (da_cons de_int (da_cons de_int da_nil))))) (da_cons (de_tup (da_cons de_int (da_cons de_int (da_cons de_int (da_cons de_int da_nil))))) (da_cons (de_tup (da_cons de_int (da_cons de_int (da_cons (de_var (pv 2)) (da_cons (de_var (pv 2)) da_nil))))) (da_cons de_str da_nil))))))))) (db_cons (ds_if (dt_ne hr.units (de_var (pv 4)) (de_tup da_nil)) (db_cons (ds_asg (de_callS c__law_pick hr (by decide) hgd (pv 0) (da_cons (de_list B.b_list (da_cons (de_var (pv 4)) da_nil)) da_nil)) (dg_tup rfl (dgs_cons (dg_name (pg_name (i := 8) sc__law_bent_tie.nd rfl (by first | exact Or.inl rfl | exact Or.inr rfl))) (dgs_cons (dg_name (pg_name (i := 9) sc__law_bent_tie.nd rfl (by first | exact Or.inl rfl | exact Or.inr rfl))) (dgs_cons (dg_name (pg_name (i := 10) sc__law_bent_tie.nd rfl (by first | exact Or.inl rfl | exact Or.inr rfl))) (dgs_cons (dg_name (pg_name (i := 11) sc__law_bent_tie.nd rfl (by first | exact Or.inl rfl | exact Or.inr rfl))) dgs_nil)))))) (db_cons (ds_set (fun _ h => ps_set (i := 7) sc__law_bent_tie.nd rfl (by first | exact Or.inl rfl | exact Or.inr rfl) h) (de_add (de_var (pv 7)) (de_lst (da_cons (de_tup (da_cons (de_var (pv 8)) (da_cons (de_var (pv 9)) (da_cons (de_sub (de_var (pv 10)) de_int) (da_cons (de_var (pv 11)) da_nil))))) (da_cons (de_tup (da_cons (de_var (pv 8)) (da_cons (de_var (pv 9)) (da_cons (de_var (pv 10)) (da_cons (de_add (de_var (pv 11)) de_int) da_nil))))) (da_cons (de_tup (da_cons (de_var (pv 9)) (da_cons (de_var (pv 8)) (da_cons (de_var (pv 10)) (da_cons (de_var (pv 11)) da_nil))))) da_nil)))))) (db_cons (ds_set (fun _ h => ps_set (i := 7) sc__law_bent_tie.nd rfl (by first | exact Or.inl rfl | exact Or.inr rfl) h) (de_add (de_var (pv 7)) (de_lst (da_cons (de_tup (da_cons (de_var (pv 8)) (da_cons (de_var (pv 9)) (da_cons (de_var (pv 11)) (da_cons (de_var (pv 10)) da_nil))))) (da_cons (de_tup (da_cons (de_var (pv 8)) (da_cons (de_var (pv 9)) (da_cons (de_var (pv 10)) (da_cons (de_var (pv 11)) da_nil))))) (da_cons (de_tup (da_cons (de_var (pv 8)) (da_cons (de_var (pv 9)) (da_cons de_non (da_cons (de_var (pv 11)) da_nil))))) da_nil)))))) (db_one (ds_set (fun _ h => ps_set (i := 7) sc__law_bent_tie.nd rfl (by first | exact Or.inl rfl | exact Or.inr rfl) h) (de_add (de_var (pv 7)) (de_lst (da_cons (de_tup (da_cons (de_var (pv 8)) (da_cons (de_var (pv 9)) (da_cons (de_var (pv 10)) (da_cons (de_var (pv 11)) (da_cons de_int da_nil)))))) (da_cons (de_tup (da_cons (de_var (pv 8)) (da_cons (de_var (pv 9)) (da_cons de_bl (da_cons (de_var (pv 11)) da_nil))))) (da_cons (de_tup (da_cons (de_var (pv 8)) (da_cons (de_var (pv 9)) (da_cons de_bl (da_cons (de_var (pv 11)) da_nil))))) da_nil)))))))))) db_nil) (db_one (ds_ret (de_tup (da_cons (de_var (pv 2)) (da_cons (de_var (pv 3)) (da_cons (de_call c__law_put hr (by decide) hgd (da_cons (de_var (pv 4)) (da_cons (de_var (pv 5)) (da_cons (de_callS c__law_pick hr (by decide) hgd (pv 0) (da_cons (de_var (pv 7)) da_nil)) da_nil)))) da_nil)))))))))))) h__law_bent_tie
theorem ok__law_bent_ (B : Blt mg) (D : DefAt K mg "_law_bent" s__law_bent ["_law_source_here", "_law_net_here"]) (c__law_draw : Cal P w K mg base 1 "_law_draw" (spS K 2 f__law_draw)) (c__law_pick : Cal P w K mg base 2 "_law_pick" (spS K 2 f__law_pick)) (c__law_bent_point : Cal P w K mg base 3 "_law_bent_point" (spS K 2 f__law_bent_point)) (c__law_bent_tie : Cal P w K mg base 3 "_law_bent_tie" (spS K 2 f__law_bent_tie)) : Cal P w K mg base 4 "_law_bent" (spS K 2 f__law_bent) :=
  D.cal fun _ _ F => fun_s0 F sc__law_bent rfl (by decide) d__law_bent (fun cdv A outer s H E hr hgd => (db_cons (ds_asg (de_var (pv 1)) (dg_tup rfl (dgs_cons (dg_name (pg_name (i := 2) sc__law_bent.nd rfl (by first | exact Or.inl rfl | exact Or.inr rfl))) (dgs_cons (dg_name (pg_name (i := 3) sc__law_bent.nd rfl (by first | exact Or.inl rfl | exact Or.inr rfl))) (dgs_cons (dg_name (pg_name (i := 4) sc__law_bent.nd rfl (by first | exact Or.inl rfl | exact Or.inr rfl))) dgs_nil))))) (db_cons (ds_set (fun _ h => ps_set (i := 5) sc__law_bent.nd rfl (by first | exact Or.inl rfl | exact Or.inr rfl) h) (de_callS c__law_draw hr (by decide) hgd (pv 0) (da_cons de_int da_nil))) (db_cons (ds_if (dt_lt (de_var (pv 5)) de_int) (db_one (ds_ret (de_callS c__law_bent_point hr (by decide) hgd (pv 0) (da_cons (de_var (pv 1)) da_nil)))) db_nil) (db_cons (ds_if (dt_lt (de_var (pv 5)) de_int) (db_one (ds_ret (de_callS c__law_bent_tie hr (by decide) hgd (pv 0) (da_cons (de_var (pv 1)) da_nil)))) db_nil) (db_cons (ds_if (dt_eq hr.units (de_var (pv 5)) de_int) (db_one (ds_ret (de_tup (da_cons (de_callS c__law_pick hr (by decide) hgd (pv 0) (da_cons (de_lst (da_cons (de_sub (de_var (pv 2)) de_int) (da_cons (de_add (de_var (pv 2)) de_int) (da_cons de_int (da_cons de_int (da_cons de_non (da_cons de_bl (da_cons de_str (da_cons (de_pow de_int de_int) da_nil))))))))) da_nil)) (da_cons (de_var (pv 3)) (da_cons (de_var (pv 4)) da_nil)))))) db_nil) (db_cons (ds_if (dt_eq hr.units (de_var (pv 5)) de_int) (db_cons (ds_set (fun _ h => ps_set (i := 6) sc__law_bent.nd rfl (by first | exact Or.inl rfl | exact Or.inr rfl) h) (de_lst (da_cons (de_list B.b_list (da_cons (de_var (pv 1)) da_nil)) (da_cons (de_sl (de_var (pv 1)) dp_none (dp_some de_int)) (da_cons (de_add (de_var (pv 1)) (de_tup (da_cons de_int da_nil))) (da_cons (de_tup (da_cons (de_var (pv 2)) (da_cons (de_list B.b_list (da_cons (de_var (pv 3)) da_nil)) (da_cons (de_var (pv 4)) da_nil)))) (da_cons (de_tup (da_cons (de_var (pv 2)) (da_cons (de_var (pv 3)) (da_cons (de_list B.b_list (da_cons (de_var (pv 4)) da_nil)) da_nil)))) da_nil))))))) (db_one (ds_ret (de_callS c__law_pick hr (by decide) hgd (pv 0) (da_cons (de_var (pv 6)) da_nil))))) db_nil) (db_cons (ds_if (dt_eq hr.units (de_var (pv 5)) de_int) (db_one (ds_ret (de_tup (da_cons (de_var (pv 2)) (da_cons (de_mul (de_var (pv 3)) de_int) (da_cons (de_var (pv 4)) da_nil)))))) db_nil) (db_one (ds_ret (de_tup (da_cons (de_var (pv 2)) (da_cons (de_var (pv 3)) (da_cons (de_mul (de_var (pv 4)) (de_add de_int (de_callS c__law_draw hr (by decide) hgd (pv 0) (da_cons de_int da_nil)))) da_nil)))))))))))))) h__law_bent
theorem ok_law_ (B : Blt mg) {fl : Addr} {fdl : FuncData} (F : Fun K "law" "law" s_law fl fdl) (c_is_net : Cal P w K mg base 5 "is_net" (spD K 1 f_is_net)) (c__law_source : Cal P w K mg base 1 "_law_source" (spN K ok__law_source)) (c__law_net : Cal P w K mg base 4 "_law_net" (spS K 4 f__law_net)) (c__law_same : Cal P w K mg base 1 "_law_same" (spD K 2 f__law_same)) (c__law_odd : Cal P w K mg base 3 "_law_odd" (spS K 1 f__law_odd)) (c__law_odd_net : Cal P w K mg base 3 "_law_odd_net" (spS K 1 f__law_odd_net)) (c__law_is_net : Cal P w K mg base 4 "_law_is_net" (spD K 1 f__law_is_net)) (c__law_bent_point : Cal P w K mg base 3 "_law_bent_point" (spS K 2 f__law_bent_point)) (c__law_bent_tie : Cal P w K mg base 3 "_law_bent_tie" (spS K 2 f__law_bent_tie)) (c__law_bent : Cal P w K mg base 4 "_law_bent" (spS K 2 f__law_bent)) : FnG P w K mg base CX0 6 fl fdl ["_law_script"] (spL K ok_law) :=
  fun_l0 F sc_law rfl (by decide) d_law (fun cdv A outer s H E hr hgd => (db_cons (ds_for PassesOwn.never rfl (di_range1 rfl B.b_range (de_max2 rfl B.b_max (da_cons de_int (da_cons (de_min2 rfl B.b_min (da_cons de_int (da_cons (de_lenO' B.b_len (pv 0)) da_nil))) da_nil)))) (dg_name (pg_name (i := 1) sc_law.nd rfl (by first | exact Or.inl rfl | exact Or.inr rfl))) (db_new (i := 2) c__law_source hr (by decide) hgd (pv 0) (de_var (pv 1)) (fun _ h => ps_set (i := 2) sc_law.nd rfl (by first | exact Or.inl rfl | exact Or.inr rfl) h) (db_cons (ds_for PassesOwn.never rfl (di_range1 rfl B.b_range de_int) (dg_name (pg_name (i := 3) sc_law.nd rfl (by first | exact Or.inl rfl | exact Or.inr rfl))) (db_cons (ds_set (fun _ h => ps_set (i := 4) sc_law.nd rfl (by first | exact Or.inl rfl | exact Or.inr rfl) h) (de_callS c__law_net hr (by decide) hgd (pv 2) (da_cons de_int (da_cons de_int (da_cons de_bl da_nil))))) (db_cons (ds_set (fun _ h => ps_set (i := 5) sc_law.nd rfl (by first | exact Or.inl rfl | exact Or.inr rfl) h) (de_callS c__law_bent_tie hr (by decide) hgd (pv 2) (da_cons (de_callS c__law_bent_point hr (by decide) hgd (pv 2) (da_cons (de_var (pv 4)) da_nil)) da_nil))) (db_one (ds_for PassesOwn.never rfl (di_seq (de_lst (da_cons (de_var (pv 4)) (da_cons (de_callS c__law_bent hr (by decide) hgd (pv 2) (da_cons (de_var (pv 4)) da_nil)) (da_cons (de_callS c__law_bent hr (by decide) hgd (pv 2) (da_cons (de_var (pv 4)) da_nil)) (da_cons (de_var (pv 5)) (da_cons (de_callS c__law_odd hr (by decide) hgd (pv 2) da_nil) da_nil))))))) (dg_name (pg_name (i := 6) sc_law.nd rfl (by first | exact Or.inl rfl | exact Or.inr rfl))) (db_cons (ds_set (fun _ h => ps_set (i := 7) sc_law.nd rfl (by first | exact Or.inl rfl | exact Or.inr rfl) h) (de_repr hgd hr.units B.b_repr (da_cons (de_var (pv 6)) da_nil))) (db_one (ds_if (DWx.pt (dw_or (dt_not (dt_tru (de_call c__law_same hr (by decide) hgd (da_cons (de_call c_is_net hr (by decide) hgd (da_cons (de_var (pv 6)) da_nil)) (da_cons (de_call c__law_is_net hr (by decide) hgd (da_cons (de_var (pv 6)) da_nil)) da_nil))))) (dw_or1 (dt_ne hr.units (de_repr hgd hr.units B.b_repr (da_cons (de_var (pv 6)) da_nil)) (de_var (pv 7)))))) (db_one (ds_ret de_bl)) db_nil)))))))) (db_one (ds_if (DWx.pt (dw_or (dt_notB (de_call c_is_net hr (by decide) hgd (da_cons (de_callS c__law_odd_net hr (by decide) hgd (pv 2) da_nil) da_nil)) de_bl) (dw_or1 (dt_notB (de_call c_is_net hr (by decide) hgd (da_cons (de_tup (da_cons de_int (da_cons (de_tup da_nil) (da_cons (de_tup da_nil) da_nil)))) da_nil)) de_bl)))) (db_one (ds_ret de_bl)) db_nil))))) (db_one (ds_ret (de_isB (de_call c_is_net hr (by decide) hgd (da_cons (de_tup (da_cons de_int (da_cons (de_mul (de_tup (da_cons (de_tup (da_cons de_int (da_cons de_int da_nil))) da_nil)) de_int) (da_cons (de_mul (de_tup (da_cons (de_tup (da_cons de_int (da_cons de_int (da_cons de_int (da_cons de_int da_nil))))) da_nil)) de_int) da_nil)))) da_nil)) de_bl))))) h_law
theorem chain (B : Blt mg) (D_is_whole : DefAt K mg "is_whole" s_is_whole ["value"]) (D_is_from_to : DefAt K mg "is_from_to" s_is_from_to ["value", "low", "high"]) (D_is_tuple_long : DefAt K mg "is_tuple_long" s_is_tuple_long ["value", "many"]) (D_is_stretch_of : DefAt K mg "is_stretch_of" s_is_stretch_of ["places", "value"]) (D_is_net : DefAt K mg "is_net" s_is_net ["value"]) (D_are_points : DefAt K mg "are_points" s_are_points ["last", "value"]) (D_are_ties : DefAt K mg "are_ties" s_are_ties ["points", "value"]) (D_is_tie : DefAt K mg "is_tie" s_is_tie ["points", "value"]) (D__law_source : DefAt K mg "_law_source" s__law_source ["_law_script", "_law_start"]) (D__law_draw : DefAt K mg "_law_draw" s__law_draw ["_law_source_here", "_law_span"]) (D__law_pick : DefAt K mg "_law_pick" s__law_pick ["_law_source_here", "_law_some"]) (D__law_mixed : DefAt K mg "_law_mixed" s__law_mixed ["_law_source_here", "_law_some"]) (D__law_life : DefAt K mg "_law_life" s__law_life ["_law_source_here", "_law_low", "_law_high", "_law_stays_on"]) (D__law_ties : DefAt K mg "_law_ties" s__law_ties ["_law_source_here", "_law_points", "_law_pairs", "_law_many", "_law_grows"]) (D__law_net : DefAt K mg "_law_net" s__law_net ["_law_source_here", "_law_most", "_law_days", "_law_grows"]) (D__law_same : DefAt K mg "_law_same" s__law_same ["_law_told", "_law_due"]) (D__law_odd : DefAt K mg "_law_odd" s__law_odd ["_law_source_here"]) (D__law_odd_net : DefAt K mg "_law_odd_net" s__law_odd_net ["_law_source_here"]) (D__law_is_number : DefAt K mg "_law_is_number" s__law_is_number ["_law_value", "_law_low", "_law_high"]) (D__law_is_life : DefAt K mg "_law_is_life" s__law_is_life ["_law_value", "_law_low", "_law_high"]) (D__law_is_tie : DefAt K mg "_law_is_tie" s__law_is_tie ["_law_value", "_law_points"]) (D__law_is_net : DefAt K mg "_law_is_net" s__law_is_net ["_law_value"]) (D__law_put : DefAt K mg "_law_put" s__law_put ["_law_row", "_law_at", "_law_thing"]) (D__law_bent_point : DefAt K mg "_law_bent_point" s__law_bent_point ["_law_source_here", "_law_net_here"]) (D__law_bent_tie : DefAt K mg "_law_bent_tie" s__law_bent_tie ["_law_source_here", "_law_net_here"]) (D__law_bent : DefAt K mg "_law_bent" s__law_bent ["_law_source_here", "_law_net_here"]) {fl : Addr} {fdl : FuncData} (F : Fun K "law" "law" s_law fl fdl) : FnG P w K mg base CX0 6 fl fdl ["_law_script"] (spL K ok_law) := by
  have c_is_whole := ok_is_whole_ (P := P) (w := w) (base := base) B D_is_whole
  have c_is_tuple_long := ok_is_tuple_long_ (P := P) (w := w) (base := base) B D_is_tuple_long
  have c__law_source := ok__law_source_ (P := P) (w := w) (base := base) B D__law_source
  have c__law_draw := ok__law_draw_ (P := P) (w := w) (base := base) B D__law_draw
  have c__law_same := ok__law_same_ (P := P) (w := w) (base := base) B D__law_same
  have c__law_is_number := ok__law_is_number_ (P := P) (w := w) (base := base) B D__law_is_number
  have c__law_put := ok__law_put_ (P := P) (w := w) (base := base) B D__law_put
  have c_is_from_to := ok_is_from_to_ (P := P) (w := w) (base := base) B D_is_from_to c_is_whole
  have c__law_pick := ok__law_pick_ (P := P) (w := w) (base := base) B D__law_pick c__law_draw
  have c__law_mixed := ok__law_mixed_ (P := P) (w := w) (base := base) B D__law_mixed c__law_draw
  have c__law_life := ok__law_life_ (P := P) (w := w) (base := base) B D__law_life c__law_draw
  have c__law_is_life := ok__law_is_life_ (P := P) (w := w) (base := base) B D__law_is_life c__law_is_number
  have c_is_stretch_of := ok_is_stretch_of_ (P := P) (w := w) (base := base) B D_is_stretch_of c_is_from_to c_is_tuple_long
  have c_is_tie := ok_is_tie_ (P := P) (w := w) (base := base) B D_is_tie c_is_from_to c_is_tuple_long
  have c__law_ties := ok__law_ties_ (P := P) (w := w) (base := base) B D__law_ties c__law_draw c__law_pick c__law_life
  have c__law_odd := ok__law_odd_ (P := P) (w := w) (base := base) B D__law_odd c__law_pick
  have c__law_odd_net := ok__law_odd_net_ (P := P) (w := w) (base := base) B D__law_odd_net c__law_pick
  have c__law_is_tie := ok__law_is_tie_ (P := P) (w := w) (base := base) B D__law_is_tie c__law_is_number c__law_is_life
  have c__law_bent_point := ok__law_bent_point_ (P := P) (w := w) (base := base) B D__law_bent_point c__law_draw c__law_pick c__law_put
  have c__law_bent_tie := ok__law_bent_tie_ (P := P) (w := w) (base := base) B D__law_bent_tie c__law_draw c__law_pick c__law_put
  have c_are_points := ok_are_points_ (P := P) (w := w) (base := base) B D_are_points c_is_stretch_of
  have c_are_ties := ok_are_ties_ (P := P) (w := w) (base := base) B D_are_ties c_is_tie
  have c__law_net := ok__law_net_ (P := P) (w := w) (base := base) B D__law_net c__law_draw c__law_mixed c__law_life c__law_ties
  have c__law_is_net := ok__law_is_net_ (P := P) (w := w) (base := base) B D__law_is_net c__law_is_number c__law_is_life c__law_is_tie
  have c__law_bent := ok__law_bent_ (P := P) (w := w) (base := base) B D__law_bent c__law_draw c__law_pick c__law_bent_point c__law_bent_tie
  have c_is_net := ok_is_net_ (P := P) (w := w) (base := base) B D_is_net c_is_from_to c_is_tuple_long c_are_points c_are_ties
  exact ok_law_ B F c_is_net c__law_source c__law_net c__law_same c__law_odd c__law_odd_net c__law_is_net c__law_bent_point c__law_bent_tie c__law_bent
theorem fin {h : Heap} {fa : Addr} (X : K.In h) (G : h.Ns mainGlobals mg) (B : Blt mg) (D_is_whole : DefAt K mg "is_whole" s_is_whole ["value"]) (D_is_from_to : DefAt K mg "is_from_to" s_is_from_to ["value", "low", "high"]) (D_is_tuple_long : DefAt K mg "is_tuple_long" s_is_tuple_long ["value", "many"]) (D_is_stretch_of : DefAt K mg "is_stretch_of" s_is_stretch_of ["places", "value"]) (D_is_net : DefAt K mg "is_net" s_is_net ["value"]) (D_are_points : DefAt K mg "are_points" s_are_points ["last", "value"]) (D_are_ties : DefAt K mg "are_ties" s_are_ties ["points", "value"]) (D_is_tie : DefAt K mg "is_tie" s_is_tie ["points", "value"]) (D__law_source : DefAt K mg "_law_source" s__law_source ["_law_script", "_law_start"]) (D__law_draw : DefAt K mg "_law_draw" s__law_draw ["_law_source_here", "_law_span"]) (D__law_pick : DefAt K mg "_law_pick" s__law_pick ["_law_source_here", "_law_some"]) (D__law_mixed : DefAt K mg "_law_mixed" s__law_mixed ["_law_source_here", "_law_some"]) (D__law_life : DefAt K mg "_law_life" s__law_life ["_law_source_here", "_law_low", "_law_high", "_law_stays_on"]) (D__law_ties : DefAt K mg "_law_ties" s__law_ties ["_law_source_here", "_law_points", "_law_pairs", "_law_many", "_law_grows"]) (D__law_net : DefAt K mg "_law_net" s__law_net ["_law_source_here", "_law_most", "_law_days", "_law_grows"]) (D__law_same : DefAt K mg "_law_same" s__law_same ["_law_told", "_law_due"]) (D__law_odd : DefAt K mg "_law_odd" s__law_odd ["_law_source_here"]) (D__law_odd_net : DefAt K mg "_law_odd_net" s__law_odd_net ["_law_source_here"]) (D__law_is_number : DefAt K mg "_law_is_number" s__law_is_number ["_law_value", "_law_low", "_law_high"]) (D__law_is_life : DefAt K mg "_law_is_life" s__law_is_life ["_law_value", "_law_low", "_law_high"]) (D__law_is_tie : DefAt K mg "_law_is_tie" s__law_is_tie ["_law_value", "_law_points"]) (D__law_is_net : DefAt K mg "_law_is_net" s__law_is_net ["_law_value"]) (D__law_put : DefAt K mg "_law_put" s__law_put ["_law_row", "_law_at", "_law_thing"]) (D__law_bent_point : DefAt K mg "_law_bent_point" s__law_bent_point ["_law_source_here", "_law_net_here"]) (D__law_bent_tie : DefAt K mg "_law_bent_tie" s__law_bent_tie ["_law_source_here", "_law_net_here"]) (D__law_bent : DefAt K mg "_law_bent" s__law_bent ["_law_source_here", "_law_net_here"]) (L : ∃ fd : FuncData, Fun K "law" "law" s_law fa fd ∧ ∀ (s : Shared) (u : Value), BindsTo s fd ⟨[u], []⟩ [("_law_script", u)]) :
    ∃ fd : FuncData, (∀ (s : Shared) (u : Value), BindsTo s fd ⟨[u], []⟩ [("_law_script", u)]) ∧ ∀ base : Heap, K.In base → base.Ns mainGlobals mg → FnG P w K mg base CX0 6 fa fd ["_law_script"] (spL K ok_law) := by
  obtain ⟨fd, F, hb⟩ := L
  exact ⟨fd, hb, fun base _ _ => chain B D_is_whole D_is_from_to D_is_tuple_long D_is_stretch_of D_is_net D_are_points D_are_ties D_is_tie D__law_source D__law_draw D__law_pick D__law_mixed D__law_life D__law_ties D__law_net D__law_same D__law_odd D__law_odd_net D__law_is_number D__law_is_life D__law_is_tie D__law_is_net D__law_put D__law_bent_point D__law_bent_tie D__law_bent F⟩
end
end DD

open PySem PySem.W PyProof.Rows
set_option maxRecDepth 100000 in
set_option maxHeartbeats 0 in
theorem PySem.Challenge.cw_staybars_k01_nets_judged_holds : PySem.Challenge.rw_staybars_k01_nets_judged.Holds := by
  w_on; o_law; k_head; (case hw => w_witness2)
  k_fill
  refine DD.walk_g (l := PySem.Challenge.rw_staybars_k01_nets_judged) (n := 63) (x := "_law_script") (ok := DD.ok_law) (k := 6) rfl (by decide) rfl ⟨rfl, by decide, by decide⟩ (fun w h Y => PySem.W.kIn_of Y) ?F (fun ns hl hb => ⟨hb, hl⟩)
  case F =>
  intro w mg fa h KX G hmg
  refine' DD.fin KX G ?B ?D_is_whole ?D_is_from_to ?D_is_tuple_long ?D_is_stretch_of ?D_is_net ?D_are_points ?D_are_ties ?D_is_tie ?D__law_source ?D__law_draw ?D__law_pick ?D__law_mixed ?D__law_life ?D__law_ties ?D__law_net ?D__law_same ?D__law_odd ?D__law_odd_net ?D__law_is_number ?D__law_is_life ?D__law_is_tie ?D__law_is_net ?D__law_put ?D__law_bent_point ?D__law_bent_tie ?D__law_bent ?L
  case B =>
    refine' ⟨DD.glob_none KX G ?b_all, DD.glob_none KX G ?b_bool, DD.glob_none KX G ?b_int, DD.glob_none KX G ?b_isinstance, DD.glob_none KX G ?b_len, DD.glob_none KX G ?b_list, DD.glob_none KX G ?b_max, DD.glob_none KX G ?b_min, DD.glob_none KX G ?b_range, DD.glob_none KX G ?b_repr, DD.glob_none KX G ?b_tuple, DD.glob_int KX G ?c_GREATEST_LAST, DD.glob_int KX G ?c_MOST_POINTS, DD.glob_int KX G ?c_MOST_TIES⟩
    (case b_all => k_is)
    (case b_bool => k_is)
    (case b_int => k_is)
    (case b_isinstance => k_is)
    (case b_len => k_is)
    (case b_list => k_is)
    (case b_max => k_is)
    (case b_min => k_is)
    (case b_range => k_is)
    (case b_repr => k_is)
    (case b_tuple => k_is)
    (case c_GREATEST_LAST => k_is)
    (case c_MOST_POINTS => k_is)
    (case c_MOST_TIES => k_is)
  case D_is_whole =>
    refine' DD.def_mk KX G ?a ?l ?c ?k (fun _ _ _ _ _ _ us hl => match us, hl with | [_], _ => rfl)
    (case a => k_is); (case l => k_is); (case c => k_is); (case k => k_is)
  case D_is_from_to =>
    refine' DD.def_mk KX G ?a ?l ?c ?k (fun _ _ _ _ _ _ us hl => match us, hl with | [_, _, _], _ => rfl)
    (case a => k_is); (case l => k_is); (case c => k_is); (case k => k_is)
  case D_is_tuple_long =>
    refine' DD.def_mk KX G ?a ?l ?c ?k (fun _ _ _ _ _ _ us hl => match us, hl with | [_, _], _ => rfl)
    (case a => k_is); (case l => k_is); (case c => k_is); (case k => k_is)
  case D_is_stretch_of =>
    refine' DD.def_mk KX G ?a ?l ?c ?k (fun _ _ _ _ _ _ us hl => match us, hl with | [_, _], _ => rfl)
    (case a => k_is); (case l => k_is); (case c => k_is); (case k => k_is)
  case D_is_net =>
    refine' DD.def_mk KX G ?a ?l ?c ?k (fun _ _ _ _ _ _ us hl => match us, hl with | [_], _ => rfl)
    (case a => k_is); (case l => k_is); (case c => k_is); (case k => k_is)
  case D_are_points =>
    refine' DD.def_mk KX G ?a ?l ?c ?k (fun _ _ _ _ _ _ us hl => match us, hl with | [_, _], _ => rfl)
    (case a => k_is); (case l => k_is); (case c => k_is); (case k => k_is)
  case D_are_ties =>
    refine' DD.def_mk KX G ?a ?l ?c ?k (fun _ _ _ _ _ _ us hl => match us, hl with | [_, _], _ => rfl)
    (case a => k_is); (case l => k_is); (case c => k_is); (case k => k_is)
  case D_is_tie =>
    refine' DD.def_mk KX G ?a ?l ?c ?k (fun _ _ _ _ _ _ us hl => match us, hl with | [_, _], _ => rfl)
    (case a => k_is); (case l => k_is); (case c => k_is); (case k => k_is)
  case D__law_source =>
    refine' DD.def_mk KX G ?a ?l ?c ?k (fun _ _ _ _ _ _ us hl => match us, hl with | [_, _], _ => rfl)
    (case a => k_is); (case l => k_is); (case c => k_is); (case k => k_is)
  case D__law_draw =>
    refine' DD.def_mk KX G ?a ?l ?c ?k (fun _ _ _ _ _ _ us hl => match us, hl with | [_, _], _ => rfl)
    (case a => k_is); (case l => k_is); (case c => k_is); (case k => k_is)
  case D__law_pick =>
    refine' DD.def_mk KX G ?a ?l ?c ?k (fun _ _ _ _ _ _ us hl => match us, hl with | [_, _], _ => rfl)
    (case a => k_is); (case l => k_is); (case c => k_is); (case k => k_is)
  case D__law_mixed =>
    refine' DD.def_mk KX G ?a ?l ?c ?k (fun _ _ _ _ _ _ us hl => match us, hl with | [_, _], _ => rfl)
    (case a => k_is); (case l => k_is); (case c => k_is); (case k => k_is)
  case D__law_life =>
    refine' DD.def_mk KX G ?a ?l ?c ?k (fun _ _ _ _ _ _ us hl => match us, hl with | [_, _, _, _], _ => rfl)
    (case a => k_is); (case l => k_is); (case c => k_is); (case k => k_is)
  case D__law_ties =>
    refine' DD.def_mk KX G ?a ?l ?c ?k (fun _ _ _ _ _ _ us hl => match us, hl with | [_, _, _, _, _], _ => rfl)
    (case a => k_is); (case l => k_is); (case c => k_is); (case k => k_is)
  case D__law_net =>
    refine' DD.def_mk KX G ?a ?l ?c ?k (fun _ _ _ _ _ _ us hl => match us, hl with | [_, _, _, _], _ => rfl)
    (case a => k_is); (case l => k_is); (case c => k_is); (case k => k_is)
  case D__law_same =>
    refine' DD.def_mk KX G ?a ?l ?c ?k (fun _ _ _ _ _ _ us hl => match us, hl with | [_, _], _ => rfl)
    (case a => k_is); (case l => k_is); (case c => k_is); (case k => k_is)
  case D__law_odd =>
    refine' DD.def_mk KX G ?a ?l ?c ?k (fun _ _ _ _ _ _ us hl => match us, hl with | [_], _ => rfl)
    (case a => k_is); (case l => k_is); (case c => k_is); (case k => k_is)
  case D__law_odd_net =>
    refine' DD.def_mk KX G ?a ?l ?c ?k (fun _ _ _ _ _ _ us hl => match us, hl with | [_], _ => rfl)
    (case a => k_is); (case l => k_is); (case c => k_is); (case k => k_is)
  case D__law_is_number =>
    refine' DD.def_mk KX G ?a ?l ?c ?k (fun _ _ _ _ _ _ us hl => match us, hl with | [_, _, _], _ => rfl)
    (case a => k_is); (case l => k_is); (case c => k_is); (case k => k_is)
  case D__law_is_life =>
    refine' DD.def_mk KX G ?a ?l ?c ?k (fun _ _ _ _ _ _ us hl => match us, hl with | [_, _, _], _ => rfl)
    (case a => k_is); (case l => k_is); (case c => k_is); (case k => k_is)
  case D__law_is_tie =>
    refine' DD.def_mk KX G ?a ?l ?c ?k (fun _ _ _ _ _ _ us hl => match us, hl with | [_, _], _ => rfl)
    (case a => k_is); (case l => k_is); (case c => k_is); (case k => k_is)
  case D__law_is_net =>
    refine' DD.def_mk KX G ?a ?l ?c ?k (fun _ _ _ _ _ _ us hl => match us, hl with | [_], _ => rfl)
    (case a => k_is); (case l => k_is); (case c => k_is); (case k => k_is)
  case D__law_put =>
    refine' DD.def_mk KX G ?a ?l ?c ?k (fun _ _ _ _ _ _ us hl => match us, hl with | [_, _, _], _ => rfl)
    (case a => k_is); (case l => k_is); (case c => k_is); (case k => k_is)
  case D__law_bent_point =>
    refine' DD.def_mk KX G ?a ?l ?c ?k (fun _ _ _ _ _ _ us hl => match us, hl with | [_, _], _ => rfl)
    (case a => k_is); (case l => k_is); (case c => k_is); (case k => k_is)
  case D__law_bent_tie =>
    refine' DD.def_mk KX G ?a ?l ?c ?k (fun _ _ _ _ _ _ us hl => match us, hl with | [_, _], _ => rfl)
    (case a => k_is); (case l => k_is); (case c => k_is); (case k => k_is)
  case D__law_bent =>
    refine' DD.def_mk KX G ?a ?l ?c ?k (fun _ _ _ _ _ _ us hl => match us, hl with | [_, _], _ => rfl)
    (case a => k_is); (case l => k_is); (case c => k_is); (case k => k_is)
  case L =>
    refine' DD.law_mk KX G hmg ?a ?l ?c ?k (fun _ _ _ _ _ _ _ _ => .of_eq rfl)
    (case a => k_is); (case l => k_is); (case c => k_is); (case k => k_is)
#print axioms PySem.Challenge.cw_staybars_k01_nets_judged_holds

