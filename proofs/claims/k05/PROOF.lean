import PyProof.Rows.All
import Wide.All
import OpenK.AllK
import Wide.FinOn
import HandS.ForMost
import HandS.IsInst
import HandS.TupLe
import HandS.Conv
import KE.DataEq
import KE.DataCmp
import KE.DataMinMax
import KE.DataIsa
import KE.DataAny
import KE.SortData
import KE.GoesEnum
import HandS.SortKw
import PySem.Challenge.RW_wrapnets_k05_fars_turn
set_option Elab.async false
set_option linter.all false
set_option maxRecDepth 100000
set_option maxHeartbeats 2000000
namespace Wn
open PySem L2

/-! ### values that stand for data -/
def keyD : Key → PyData
  | .inl i => .int i
  | .inr x => .str x
mutual
inductive Da (K : PySem.W.Frag) (H : Hp) : V → PyData → Prop
  | non : Da K H .non .none
  | bl (b : Bool) : Da K H (.bl b) (.bool b)
  | int (i : Int) : Da K H (.int i) (.int i)
  | str (x : Str) : Da K H (.str x) (.str x)
  | lst {a : Addr} {xs : List V} {ds : List PyData} : H a = some (.lst xs) → DaAll K H xs ds → Da K H (.ref a) (.list ds)
  | tup {a : Addr} {xs : List V} {ds : List PyData} : SqT K H a xs → DaAll K H xs ds → Da K H (.ref a) (.tuple ds)
  | dct {a : Addr} {kvs : List (Key × V)} {ds : List (PyData × PyData)} : H a = some (.dK kvs) → DaKV K H kvs ds → Da K H (.ref a) (.dict ds)
inductive DaAll (K : PySem.W.Frag) (H : Hp) : List V → List PyData → Prop
  | nil : DaAll K H [] []
  | cons {v : V} {vs : List V} {d : PyData} {ds : List PyData} : Da K H v d → DaAll K H vs ds → DaAll K H (v :: vs) (d :: ds)
inductive DaKV (K : PySem.W.Frag) (H : Hp) : List (Key × V) → List (PyData × PyData) → Prop
  | nil : DaKV K H [] []
  | cons {k : Key} {v : V} {kvs : List (Key × V)} {d : PyData} {ds : List (PyData × PyData)} : Da K H v d → DaKV K H kvs ds → DaKV K H ((k, v) :: kvs) ((keyD k, d) :: ds)
end

section
variable {K : PySem.W.Frag} {H H' : Hp}
theorem Same.tupq {a : Addr} {xs : List V} (e : Same H H') (h : SqT K H a xs) : SqT K H' a xs := by
  rcases h with (h | ⟨o, h⟩) | h
  · exact .inl (.inl (e _ _ h))
  · exact .inl (.inr ⟨o, e _ _ h⟩)
  · exact .inr h
theorem da_mono (e : Same H H') {v : V} {d : PyData} (h : Da K H v d) : Da K H' v d :=
  Da.rec (K := K) (H := H) (motive_1 := fun v d _ => Da K H' v d) (motive_2 := fun vs ds _ => DaAll K H' vs ds) (motive_3 := fun vs ds _ => DaKV K H' vs ds)
    .non .bl .int .str (fun h _ ih => .lst (e _ _ h) ih) (fun h _ ih => .tup (Same.tupq e h) ih) (fun h _ ih => .dct (e _ _ h) ih) .nil (fun _ _ a b => .cons a b) .nil (fun _ _ a b => .cons a b) h
theorem daAll_mono (e : Same H H') {vs : List V} {ds : List PyData} (h : DaAll K H vs ds) : DaAll K H' vs ds :=
  DaAll.rec (K := K) (H := H) (motive_1 := fun v d _ => Da K H' v d) (motive_2 := fun vs ds _ => DaAll K H' vs ds) (motive_3 := fun vs ds _ => DaKV K H' vs ds)
    .non .bl .int .str (fun h _ ih => .lst (e _ _ h) ih) (fun h _ ih => .tup (Same.tupq e h) ih) (fun h _ ih => .dct (e _ _ h) ih) .nil (fun _ _ a b => .cons a b) .nil (fun _ _ a b => .cons a b) h
theorem DaAll.len : ∀ {vs : List V} {ds : List PyData}, DaAll K H vs ds → vs.length = ds.length
  | _, _, .nil => rfl
  | _, _, .cons _ t => by rw [List.length_cons, List.length_cons, t.len]
theorem DaAll.get : ∀ {vs : List V} {ds : List PyData} {i : Nat} {d : PyData}, DaAll K H vs ds → ds[i]? = some d → ∃ v, vs[i]? = some v ∧ Da K H v d
  | _, _, _, _, .nil, e => by simp at e
  | _, _, 0, _, .cons a _, e => by simp at e; subst e; exact ⟨_, rfl, a⟩
  | _, _, i + 1, d, .cons _ t, e => by
    obtain ⟨u, h1, h2⟩ := DaAll.get (i := i) (d := d) t (by simpa using e)
    exact ⟨u, by simpa using h1, h2⟩
theorem DaAll.getV : ∀ {vs : List V} {ds : List PyData} {i : Nat} {v : V}, DaAll K H vs ds → vs[i]? = some v → ∃ d, ds[i]? = some d ∧ Da K H v d
  | _, _, _, _, .nil, e => by simp at e
  | _, _, 0, _, .cons a _, e => by simp at e; subst e; exact ⟨_, rfl, a⟩
  | _, _, i + 1, d, .cons _ t, e => by
    obtain ⟨u, h1, h2⟩ := DaAll.getV (i := i) (v := d) t (by simpa using e)
    exact ⟨u, by simpa using h1, h2⟩
theorem DaAll.append : ∀ {vs ws : List V} {ds es : List PyData}, DaAll K H vs ds → DaAll K H ws es → DaAll K H (vs ++ ws) (ds ++ es)
  | _, _, _, _, .nil, h => h
  | _, _, _, _, .cons a t, h => .cons a (t.append h)
theorem DaAll.drop : ∀ {vs : List V} {ds : List PyData} (n : Nat), DaAll K H vs ds → DaAll K H (vs.drop n) (ds.drop n)
  | _, _, 0, h => h
  | _, _, _ + 1, .nil => .nil
  | _, _, n + 1, .cons _ t => t.drop n
theorem DaAll.take : ∀ {vs : List V} {ds : List PyData} (n : Nat), DaAll K H vs ds → DaAll K H (vs.take n) (ds.take n)
  | _, _, 0, _ => .nil
  | _, _, _ + 1, .nil => .nil
  | _, _, n + 1, .cons a t => .cons a (t.take n)
theorem DaAll.set {v : V} {d : PyData} (a : Da K H v d) : ∀ {vs : List V} {ds : List PyData} (i : Nat), DaAll K H vs ds → DaAll K H (vs.set i v) (ds.set i d)
  | _, _, _, .nil => .nil
  | _, _, 0, .cons _ t => .cons a t
  | _, _, i + 1, .cons b t => .cons b (t.set a i)
theorem daAll_ints : ∀ ns : List Int, DaAll K H (ns.map V.int) (ns.map PyData.int)
  | [] => .nil
  | n :: ns => .cons (.int n) (daAll_ints ns)
theorem daAll_bls : ∀ ns : List Bool, DaAll K H (ns.map V.bl) (ns.map PyData.bool)
  | [] => .nil
  | n :: ns => .cons (.bl n) (daAll_bls ns)
theorem daAll_ints_inv : ∀ {vs : List V} {ns : List Int}, DaAll K H vs (ns.map PyData.int) → vs = ns.map V.int
  | _, [], h => by cases h; rfl
  | _, n :: ns, h => by
    cases h with
    | cons a t => cases a; rw [daAll_ints_inv t]; rfl
theorem daAll_bls_inv : ∀ {vs : List V} {ns : List Bool}, DaAll K H vs (ns.map PyData.bool) → vs = ns.map V.bl
  | _, [], h => by cases h; rfl
  | _, n :: ns, h => by
    cases h with
    | cons a t => cases a; rw [daAll_bls_inv t]; rfl
theorem Da.tupI {v : V} {ds : List PyData} (h : Da K H v (.tuple ds)) : ∃ a xs, v = .ref a ∧ SqT K H a xs ∧ DaAll K H xs ds := by
  cases h with
  | tup h1 h2 => exact ⟨_, _, rfl, h1, h2⟩
theorem Da.lstI {v : V} {ds : List PyData} (h : Da K H v (.list ds)) : ∃ a xs, v = .ref a ∧ H a = some (.lst xs) ∧ DaAll K H xs ds := by
  cases h with
  | lst h1 h2 => exact ⟨_, _, rfl, h1, h2⟩
theorem Da.intI {v : V} {i : Int} (h : Da K H v (.int i)) : v = .int i := by cases h; rfl
theorem Da.blI {v : V} {b : Bool} (h : Da K H v (.bool b)) : v = .bl b := by cases h; rfl
theorem Da.strI {v : V} {b : Str} (h : Da K H v (.str b)) : v = .str b := by cases h; rfl
theorem Da.nonI {v : V} (h : Da K H v .none) : v = .non := by cases h; rfl
end

section
variable {X : Cx} {pins : List (Addr × Obj)} {σ : St} {H : Hp} {s : Shared}
theorem kv_reads {h : Heap} {P : Program} {w : World} : ∀ (kvs : List (Key × V)) (ds : List (PyData × PyData)) (vs : List (Key × Value)) (es : List DictEntry), DaKV X.K H kvs ds → KV kvs vs → Pairs (mixKind P w) es vs →
    ReadsAll h (es.map (·.key)) (ds.map (·.1)) []
  | [], ds, vs, es, hd, kv, pr => by
    cases hd
    cases kv
    cases pr
    exact .nil
  | (k, v) :: kvs, ds, vs, es, hd, kv, pr => by
    cases hd with
    | cons a t =>
      cases kv with
      | @cons p q l1 l2 r rs =>
        cases pr with
        | @cons e kw es2 kvs2 h1 h2 hp =>
          have ih := kv_reads (h := h) kvs _ _ _ t rs hp
          have e1 : k = q.1 := r.1
          have h1' : keyIs k e.key = true := by rw [e1]; exact h1
          rcases keyIs_shape h1' with ⟨i, t, e3, e2⟩ | ⟨x, t, e3, e2⟩
          · subst e3
            show ReadsAll h (e.key :: _) (PyData.int i :: _) []
            rw [e2]
            exact ReadsAll.cons (as := []) (bs := []) (Reads.int i t) ih
          · subst e3
            show ReadsAll h (e.key :: _) (PyData.str x :: _) []
            rw [e2]
            exact ReadsAll.cons (as := []) (bs := []) (Reads.str x t) ih
theorem da_reads (I : Inv X pins σ H s) {v : V} {d : PyData} (h : Da X.K H v d) : ∀ u, RelV v u → ∃ as, Reads s.heap u d as :=
  Da.rec (K := X.K) (H := H) (motive_1 := fun v d _ => ∀ u, RelV v u → ∃ as, Reads s.heap u d as) (motive_2 := fun vs ds _ => ∀ us, Vals vs us → ∃ as, ReadsAll s.heap us ds as)
    (motive_3 := fun kvs ds _ => ∀ (vs : List (Key × Value)) (es : List DictEntry), KV kvs vs → Pairs (mixKind X.prog X.w) es vs → ∃ as, ReadsAll s.heap (es.map (·.val)) (ds.map (·.2)) as)
    (fun u r => by cases r; exact ⟨_, Reads.none⟩)
    (fun b u r => by cases r; exact ⟨_, Reads.bool b⟩)
    (fun i u r => by obtain ⟨t, rfl⟩ := r; exact ⟨_, Reads.int i t⟩)
    (fun i u r => by obtain ⟨t, rfl⟩ := r; exact ⟨_, Reads.str i t⟩)
    (fun hs _ ih u r => by
      cases r
      obtain ⟨its, rv, ⟨o, n, ho, hc, _, hd⟩, _⟩ := I.list (SqL.of hs)
      obtain ⟨as, hr⟩ := ih its rv
      exact ⟨_, Reads.list ho hc hd hr⟩)
    (fun hs _ ih u r => by
      cases r
      obtain ⟨its, rv, ⟨o, ho, hc, n, hd⟩, _⟩ := I.tuple hs
      obtain ⟨as, hr⟩ := ih its rv
      exact ⟨_, Reads.tuple ho hc hd hr⟩)
    (fun {a kvs ds} ha hkv ih u r => by
      cases (show u = Value.ref a from r)
      obtain ⟨_, _, vs, kv, o, es, ep, e, ex, ed, _, pr, _⟩ := (show ObjOk X.prog X.w H s.heap a (.dK kvs) from I.hok a _ ha)
      obtain ⟨as, hr⟩ := ih vs es.toList kv pr
      exact ⟨_, Reads.dict e ex.1 ed (kv_reads _ _ _ _ hkv kv pr) hr⟩)
    (fun us r => by cases r; exact ⟨_, ReadsAll.nil⟩)
    (fun _ _ ih1 ih2 us r => by
      cases r with
      | cons r1 r2 =>
        obtain ⟨as, q1⟩ := ih1 _ r1
        obtain ⟨bs, q2⟩ := ih2 _ r2
        exact ⟨_, ReadsAll.cons q1 q2⟩)
    (fun vs es kv pr => by cases kv; cases pr; exact ⟨_, ReadsAll.nil⟩)
    (fun _ _ ih1 ih2 vs es kv pr => by
      cases kv with
      | cons r rs =>
        cases pr with
        | cons h1 h2 hp =>
          obtain ⟨as, q1⟩ := ih1 _ (show RelV _ _ from h2 ▸ r.2)
          obtain ⟨bs, q2⟩ := ih2 _ _ rs hp
          exact ⟨_, ReadsAll.cons q1 q2⟩) h
theorem daAll_reads (I : Inv X pins σ H s) : ∀ {vs : List V} {ds : List PyData} {us : List Value}, DaAll X.K H vs ds → Vals vs us → ∃ as, ReadsAll s.heap us ds as
  | _, _, _, .nil, .nil => ⟨_, .nil⟩
  | _, _, _, .cons a t, .cons r rs => by
    obtain ⟨as, q1⟩ := da_reads I a _ r
    obtain ⟨bs, q2⟩ := daAll_reads I t rs
    exact ⟨_, .cons q1 q2⟩
end
end Wn
set_option Elab.async false
set_option linter.all false
set_option maxRecDepth 100000
set_option maxHeartbeats 2000000
namespace Wn
open PySem L2

theorem same_new {H : Hp} {p : Addr} {o : HO} (h : H p = none) : Same H (upd H p o) := fun a u e => by
  rw [upd_ne (ne_of_none e h)]; exact e
theorem same_upd {G H : Hp} {p : Addr} {o : HO} (h : Same G H) : Same (upd G p o) (upd H p o) := fun a u e => by
  by_cases q : a = p
  · subst q; rw [upd_same] at e ⊢; exact e
  · rw [upd_ne q] at e ⊢; exact h a u e

/-! ### model values, model objects: what may change stands in a store, by numbers; data is what never changes -/
inductive MV where
  | d (x : PyData)
  | r (i : Nat)
  | t (n : String)
  | s (ns : List Int)
inductive MO where
  | lst (xs : List MV)
  | ins (C : Addr) (fs : List (Str × MV))
  | dct (kvs : List (Key × MV))
abbrev Mm := List MO
abbrev Ro := List (Option MV)
abbrev QV := MV → Mm → Prop
def MV.sc (n : Nat) : MV → Prop
  | .d _ => True
  | .r i => i < n
  | .t _ => True
  | .s _ => True
def MO.sc (n : Nat) : MO → Prop
  | .lst xs => ∀ x ∈ xs, x.sc n
  | .ins _ fs => ∀ p ∈ fs, p.2.sc n
  | .dct kvs => ∀ p ∈ kvs, p.2.sc n
def Scd (m : Mm) : Prop := ∀ o ∈ m, o.sc m.length

section
variable (K : PySem.W.Frag) (G : Hp) (π : List Addr)
def Rv (v : V) : MV → Prop
  | .d x => Da K G v x
  | .r i => ∃ a, π[i]? = some a ∧ v = .ref a
  | .t n => v = .ty n
  | .s ns => ∃ a, v = .ref a ∧ SqL K G a (ns.map V.int)
abbrev Rvs : List V → List MV → Prop := Paired (Rv K G π)
def Rf (p : Str × V) (q : Str × MV) : Prop := p.1 = q.1 ∧ Rv K G π p.2 q.2
def Rkv (p : Key × V) (q : Key × MV) : Prop := p.1 = q.1 ∧ Rv K G π p.2 q.2
def Rob (u : HO) : MO → Prop
  | .lst ys => ∃ xs, u = .lst xs ∧ Rvs K G π xs ys
  | .ins C gs => ∃ dx fs, u = .ins C dx fs ∧ Paired (Rf K G π) fs gs
  | .dct gs => ∃ fs, u = .dK fs ∧ Paired (Rkv K G π) fs gs
end
/-- π: where the store's objects lie; G: where the data lie, in H -/
structure Hk (K : PySem.W.Frag) (π : List Addr) (G H : Hp) (m : Mm) : Prop where
  sub : Same G H
  len : π.length = m.length
  nd : π.Nodup
  hid : ∀ a ∈ π, G a = none
  obj : ∀ (i : Nat) (o : MO), m[i]? = some o → ∃ a u, π[i]? = some a ∧ H a = some u ∧ Rob K G π u o
structure Sk (K : PySem.W.Frag) (π : List Addr) (G : Hp) (σ : St) (ρ : Ro) : Prop where
  len : σ.length = ρ.length
  get : ∀ (i : Nat) (x : MV), ρ[i]? = some (some x) → ∃ v, σ[i]? = some (some v) ∧ Rv K G π v x
structure Xt (π : List Addr) (G H : Hp) (π' : List Addr) (G' H' : Hp) : Prop where
  g : Same G G'
  p : ∃ τ, π' = π ++ τ ∧ ∀ a ∈ τ, H a = none
  fr : ∀ a o, H a = some o → a ∉ π → H' a = some o
  al : ∀ a, H a ≠ none → H' a ≠ none
  n : ∀ a, H a ≠ none → G a = none → G' a = none

section
variable {K : PySem.W.Frag} {π π' π1 π2 : List Addr} {G H G' H' G1 H1 G2 H2 : Hp} {m : Mm} {v : V} {x : MV}
theorem Xt.refl : Xt π G H π G H := ⟨Same.refl G, ⟨[], by simp, by simp⟩, fun _ _ h _ => h, fun _ h => h, fun _ _ h => h⟩
theorem Xt.trans (a : Xt π G H π1 G1 H1) (b : Xt π1 G1 H1 π2 G2 H2) : Xt π G H π2 G2 H2 := by
  obtain ⟨τ, e1, f1⟩ := a.p
  obtain ⟨τ2, e2, f2⟩ := b.p
  refine ⟨a.g.trans b.g, ⟨τ ++ τ2, by rw [e2, e1, List.append_assoc], fun c hc => ?_⟩, fun c o h nc => ?_, fun c h => b.al c (a.al c h), fun c h hg => b.n c (a.al c h) (a.n c h hg)⟩
  · rcases List.mem_append.mp hc with hc | hc
    · exact f1 c hc
    · cases e : H c with
      | none => rfl
      | some o => exact absurd (f2 c hc) (a.al c (by rw [e]; simp))
  · refine b.fr c o (a.fr c o h nc) fun hm => ?_
    rw [e1] at hm
    rcases List.mem_append.mp hm with hm | hm
    · exact nc hm
    · rw [f1 c hm] at h; cases h
theorem Xt.get (a : Xt π G H π' G' H') {i : Nat} {c : Addr} (h : π[i]? = some c) : π'[i]? = some c := by
  obtain ⟨τ, e, _⟩ := a.p
  rw [e, List.getElem?_append_left (by
    by_cases q : i < π.length
    · exact q
    · rw [List.getElem?_eq_none (by omega)] at h; cases h)]
  exact h
theorem Rv.mono (h : Rv K G π v x) (g : Same G G') (p : ∀ (i : Nat) (c : Addr), π[i]? = some c → π'[i]? = some c) : Rv K G' π' v x := by
  cases x with
  | d y => exact da_mono g h
  | r i => obtain ⟨a, h1, h2⟩ := h; exact ⟨a, p i a h1, h2⟩
  | t n => exact h
  | s ns => obtain ⟨a, h1, h2⟩ := h; exact ⟨a, h1, g.seq h2⟩
theorem Rv.xt (h : Rv K G π v x) (e : Xt π G H π' G' H') : Rv K G' π' v x := h.mono e.g fun _ _ => e.get
theorem Rvs.mono {vs : List V} {xs : List MV} (h : Rvs K G π vs xs) (g : Same G G') (p : ∀ (i : Nat) (c : Addr), π[i]? = some c → π'[i]? = some c) : Rvs K G' π' vs xs := Paired.mapP h fun _ _ q => q.mono g p
theorem Rvs.xt {vs : List V} {xs : List MV} (h : Rvs K G π vs xs) (e : Xt π G H π' G' H') : Rvs K G' π' vs xs := Rvs.mono h e.g fun _ _ => e.get
theorem Rob.mono {u : HO} {o : MO} (h : Rob K G π u o) (g : Same G G') (p : ∀ (i : Nat) (c : Addr), π[i]? = some c → π'[i]? = some c) : Rob K G' π' u o := by
  cases o with
  | lst ys => obtain ⟨xs, e, q⟩ := h; exact ⟨xs, e, Rvs.mono q g p⟩
  | ins C gs => obtain ⟨dx, fs, e, q⟩ := h; exact ⟨dx, fs, e, Paired.mapP q fun _ _ z => ⟨z.1, z.2.mono g p⟩⟩
  | dct gs => obtain ⟨fs, e, q⟩ := h; exact ⟨fs, e, Paired.mapP q fun _ _ z => ⟨z.1, z.2.mono g p⟩⟩
theorem Sk.xt {σ : St} {ρ : Ro} (h : Sk K π G σ ρ) (e : Xt π G H π' G' H') : Sk K π' G' σ ρ := ⟨h.len, fun i x q => let ⟨v, q1, q2⟩ := h.get i x q; ⟨v, q1, q2.xt e⟩⟩
theorem Hk.mem (h : Hk K π G H m) {a : Addr} (ha : a ∈ π) : ∃ u, H a = some u := by
  obtain ⟨i, hi, e⟩ := List.mem_iff_getElem.mp ha
  have hl : i < m.length := by rw [← h.len]; exact hi
  obtain ⟨b, u, h1, h2, _⟩ := h.obj i m[i] (by simp [hl])
  rw [List.getElem?_eq_getElem hi, e] at h1
  cases h1
  exact ⟨u, h2⟩
/-- more objects that nobody speaks of -/
theorem Hk.grow (h : Hk K π G H m) (s : Same H H') : Hk K π G H' m := ⟨h.sub.trans s, h.len, h.nd, h.hid, fun i o q => let ⟨a, u, h1, h2, h3⟩ := h.obj i o q; ⟨a, u, h1, s _ _ h2, h3⟩⟩
theorem Hk.nin (h : Hk K π G H m) {p : Addr} (hp : H p = none) : p ∉ π := fun q => by
  obtain ⟨u, e⟩ := h.mem q
  rw [e] at hp; cases hp
/-- a hidden object becomes data -/
theorem Hk.seal (h : Hk K π G H m) {p : Addr} {o : HO} (hp : H p = some o) (hn : p ∉ π) (hg : G p = none) : Hk K π (upd G p o) H m := by
  have sg : Same G (upd G p o) := same_new hg
  refine ⟨fun a u e => ?_, h.len, h.nd, fun a ha => ?_, fun i u q => let ⟨a, w, h1, h2, h3⟩ := h.obj i u q; ⟨a, w, h1, h2, h3.mono sg fun _ _ z => z⟩⟩
  · by_cases q : a = p
    · subst q; rw [upd_same] at e; cases e; exact hp
    · rw [upd_ne q] at e; exact h.sub a u e
  · rw [upd_ne (fun z => hn (by rw [← z]; exact ha))]; exact h.hid a ha
/-- a new object of data -/
theorem Hk.new (h : Hk K π G H m) {p : Addr} {o : HO} (hp : H p = none) : Hk K π (upd G p o) (upd H p o) m :=
  (h.grow (same_new hp)).seal upd_same (h.nin hp) (h.sub.free hp)
theorem Xt.new {p : Addr} {o : HO} (hp : H p = none) (hg : G p = none) : Xt π G H π (upd G p o) (upd H p o) :=
  ⟨same_new hg, ⟨[], by simp, by simp⟩, fun a u h _ => by rw [upd_ne (ne_of_none h hp)]; exact h, fun a h => by
    by_cases q : a = p
    · subst q; rw [upd_same]; simp
    · rw [upd_ne q]; exact h, fun a h q => by
    rw [upd_ne (fun z => by subst z; exact h hp)]; exact q⟩
/-- a hidden object becomes one of the store -/
theorem Hk.own (h : Hk K π G H m) {p : Addr} {u : HO} {o : MO} (hp : H p = some u) (hn : p ∉ π) (hg : G p = none) (r : Rob K G (π ++ [p]) u o) : Hk K (π ++ [p]) G H (m ++ [o]) := by
  have mo : ∀ (i : Nat) (c : Addr), π[i]? = some c → (π ++ [p])[i]? = some c := fun i c q => by
    rw [List.getElem?_append_left (by
      by_cases z : i < π.length
      · exact z
      · rw [List.getElem?_eq_none (by omega)] at q; cases q)]
    exact q
  refine ⟨h.sub, by simp [h.len], ?_, fun a ha => ?_, fun i w q => ?_⟩
  · rw [List.nodup_append]
    refine ⟨h.nd, by simp, fun a ha b hb e => ?_⟩
    simp at hb
    subst hb; subst e
    exact hn ha
  · rcases List.mem_append.mp ha with ha | ha
    · exact h.hid a ha
    · simp at ha; subst ha; exact hg
  · by_cases hi : i < m.length
    · rw [List.getElem?_append_left hi] at q
      obtain ⟨a, w', h1, h2, h3⟩ := h.obj i w q
      exact ⟨a, w', mo _ _ h1, h2, h3.mono (Same.refl G) mo⟩
    · have e : i = m.length := by
        by_cases z : i = m.length
        · exact z
        · rw [List.getElem?_eq_none (by simp; omega)] at q; cases q
      subst e
      rw [List.getElem?_append_right (Nat.le_refl _)] at q
      simp at q
      subst q
      refine ⟨p, u, ?_, hp, r⟩
      rw [List.getElem?_append_right (by rw [h.len]; exact Nat.le_refl _)]
      simp [h.len]
theorem Hk.alloc (h : Hk K π G H m) {p : Addr} {u : HO} {o : MO} (hp : H p = none) (r : Rob K G (π ++ [p]) u o) : Hk K (π ++ [p]) G (upd H p u) (m ++ [o]) :=
  (h.grow (same_new hp)).own upd_same (h.nin hp) (h.sub.free hp) r
theorem Xt.alloc {p : Addr} {u : HO} (hp : H p = none) : Xt π G H (π ++ [p]) G (upd H p u) :=
  ⟨Same.refl G, ⟨[p], rfl, fun a ha => by simp at ha; subst ha; exact hp⟩, fun a u h _ => by rw [upd_ne (ne_of_none h hp)]; exact h, fun a h => by
    by_cases q : a = p
    · subst q; rw [upd_same]; simp
    · rw [upd_ne q]; exact h, fun a _ q => q⟩
theorem Hk.write (h : Hk K π G H m) {i : Nat} {a : Addr} {u : HO} {o : MO} (hi : π[i]? = some a) (r : Rob K G π u o) : Hk K π G (upd H a u) (m.set i o) := by
  have ha : a ∈ π := List.mem_of_getElem? hi
  refine ⟨fun b w e => ?_, by simp [h.len], h.nd, h.hid, fun j w q => ?_⟩
  · rw [upd_ne (fun z => by subst z; rw [h.hid _ ha] at e; cases e)]; exact h.sub b w e
  · by_cases e : i = j
    · subst e
      rw [List.getElem?_set_self (by
        by_cases z : i < m.length
        · exact z
        · rw [List.getElem?_eq_none (by simp; omega)] at q; cases q)] at q
      cases q
      exact ⟨a, u, hi, upd_same, r⟩
    · rw [List.getElem?_set_ne e] at q
      obtain ⟨b, w', h1, h2, h3⟩ := h.obj j w q
      refine ⟨b, w', h1, ?_, h3⟩
      rw [upd_ne (fun z => ?_)]
      · exact h2
      · subst z
        have l1 : i < π.length := by
          by_cases z : i < π.length
          · exact z
          · rw [List.getElem?_eq_none (by omega)] at hi; cases hi
        exact e ((List.getElem?_inj l1 h.nd).mp (hi.trans h1.symm))
theorem Xt.write {a : Addr} {u : HO} (ha : a ∈ π) : Xt π G H π G (upd H a u) :=
  ⟨Same.refl G, ⟨[], by simp, by simp⟩, fun b o h nb => by rw [upd_ne (fun z => nb (by rw [z]; exact ha))]; exact h, fun b h => by
    by_cases q : b = a
    · subst q; rw [upd_same]; simp
    · rw [upd_ne q]; exact h, fun _ _ q => q⟩
theorem Rv.sc (h : Rv K G π v x) : x.sc π.length := by
  cases x with
  | d _ => trivial
  | t _ => trivial
  | s _ => trivial
  | r i =>
    obtain ⟨a, h1, _⟩ := h
    show i < π.length
    by_cases z : i < π.length
    · exact z
    · rw [List.getElem?_eq_none (by omega)] at h1; cases h1
theorem paired_mem {α β : Type} {F : α → β → Prop} : ∀ {as : List α} {bs : List β}, Paired F as bs → ∀ b ∈ bs, ∃ a, F a b
  | _, _, .nil, b, h => by simp at h
  | _, _, .cons r t, b, h => by
    rcases List.mem_cons.mp h with rfl | h
    · exact ⟨_, r⟩
    · exact paired_mem t b h
theorem Hk.scd (h : Hk K π G H m) : Scd m := fun o ho => by
  obtain ⟨i, hi, e⟩ := List.mem_iff_getElem.mp ho
  obtain ⟨a, u, _, _, r⟩ := h.obj i o (by rw [List.getElem?_eq_getElem hi, e])
  rw [← h.len]
  cases o with
  | lst ys =>
    obtain ⟨xs, _, q⟩ := r
    intro x hx
    obtain ⟨v, z⟩ := paired_mem q x hx
    exact z.sc
  | ins C gs =>
    obtain ⟨dx, fs, _, q⟩ := r
    intro p hp
    obtain ⟨v, z⟩ := paired_mem q p hp
    exact z.2.sc
  | dct gs =>
    obtain ⟨fs, _, q⟩ := r
    intro p hp
    obtain ⟨v, z⟩ := paired_mem q p hp
    exact z.2.sc
theorem Rv.cut {n : Nat} (h : Rv K G π v x) (s : x.sc n) : Rv K G (π.take n) v x := by
  cases x with
  | d _ => exact h
  | t _ => exact h
  | s _ => exact h
  | r i =>
    obtain ⟨a, h1, h2⟩ := h
    exact ⟨a, by rw [List.getElem?_take_of_lt s]; exact h1, h2⟩
theorem paired_map_mem {α β : Type} {F F' : α → β → Prop} : ∀ {as : List α} {bs : List β}, Paired F as bs → (∀ a, ∀ b ∈ bs, F a b → F' a b) → Paired F' as bs
  | _, _, .nil, _ => .nil
  | _, _, .cons r t, h => .cons (h _ _ List.mem_cons_self r) (paired_map_mem t fun a b hb => h a b (List.mem_cons_of_mem _ hb))
/-- the younger part of the store is forgotten -/
theorem Hk.drop (h : Hk K π G H m) {n : Nat} (s : ∀ o ∈ m.take n, o.sc n) : Hk K (π.take n) G H (m.take n) := by
  refine ⟨h.sub, by simp [h.len], h.nd.sublist (List.take_sublist _ _), fun a ha => h.hid a (List.mem_of_mem_take ha), fun i o q => ?_⟩
  have hm : o ∈ m.take n := List.mem_of_getElem? q
  have hi : i < n := by
    by_cases z : i < n
    · exact z
    · rw [List.getElem?_eq_none (by simp; omega)] at q; cases q
  rw [List.getElem?_take_of_lt hi] at q
  obtain ⟨a, u, h1, h2, h3⟩ := h.obj i o q
  refine ⟨a, u, by rw [List.getElem?_take_of_lt hi]; exact h1, h2, ?_⟩
  have so := s o hm
  cases o with
  | lst ys => obtain ⟨xs, e, q⟩ := h3; exact ⟨xs, e, paired_map_mem q fun a b hb r => r.cut (so b hb)⟩
  | ins C gs => obtain ⟨dx, fs, e, q⟩ := h3; exact ⟨dx, fs, e, paired_map_mem q fun a b hb r => ⟨r.1, r.2.cut (so b hb)⟩⟩
  | dct gs => obtain ⟨fs, e, q⟩ := h3; exact ⟨fs, e, paired_map_mem q fun a b hb r => ⟨r.1, r.2.cut (so b hb)⟩⟩
end

/-! ### wishes -/
section
variable {K : PySem.W.Frag} {π π' π1 π2 : List Addr} {G H G' H' G1 H1 G2 H2 : Hp} {m : Mm} {v : V} {x : MV}
def Wv (K : PySem.W.Frag) (π : List Addr) (G H : Hp) (Q : QV) (R : VK) : Prop := ∀ v x π' G' H' m', Xt π G H π' G' H' → Hk K π' G' H' m' → Rv K G' π' v x → Q x m' → R v H'
theorem Wv.xt {Q : QV} {R : VK} (h : Wv K π G H Q R) (e : Xt π G H π1 G1 H1) : Wv K π1 G1 H1 Q R := fun v x π' G' H' m' e' => h v x π' G' H' m' (e.trans e')
/-- a new list: as data, or in the store -/
def NewL (acc : List MV) (m : Mm) (Q : QV) : Prop := (∃ ds : List PyData, acc = ds.map .d ∧ Q (.d (.list ds)) m) ∨ Q (.r m.length) (m ++ [.lst acc])
theorem rvs_data : ∀ {vs : List V} {ds : List PyData}, Rvs K G π vs (ds.map .d) → DaAll K G vs ds
  | _, [], h => by cases h; exact .nil
  | _, d :: ds, h => by cases h with | cons r t => exact .cons r (rvs_data t)
theorem data_rvs : ∀ {vs : List V} {ds : List PyData}, DaAll K G vs ds → Rvs K G π vs (ds.map .d)
  | _, _, .nil => .nil
  | _, _, .cons r t => .cons r (data_rvs t)
theorem newl_at {p : Addr} {vs : List V} {acc : List MV} {Q : QV} {R : VK} (h : Hk K π G H m) (hp : H p = some (.lst vs)) (hn : p ∉ π) (hg : G p = none) (rs : Rvs K G π vs acc) (q : NewL acc m Q)
    (w : ∀ x π' G' m', Same G G' → (∀ a, a ≠ p → G a = none → G' a = none) → (π' = π ∨ π' = π ++ [p]) → Hk K π' G' H m' → Rv K G' π' (.ref p) x → Q x m' → R (.ref p) H) : R (.ref p) H := by
  rcases q with ⟨ds, e, q⟩ | q
  · subst e
    refine w _ π (upd G p (.lst vs)) m (same_new hg) (fun a ha e => by rw [upd_ne ha]; exact e) (.inl rfl) (h.seal hp hn hg) ?_ q
    exact Da.lst upd_same (daAll_mono (same_new hg) (rvs_data rs))
  · have mo : ∀ (i : Nat) (c : Addr), π[i]? = some c → (π ++ [p])[i]? = some c := fun i c q => by
      rw [List.getElem?_append_left (by
        by_cases z : i < π.length
        · exact z
        · rw [List.getElem?_eq_none (by omega)] at q; cases q)]
      exact q
    have ro : Rob K G (π ++ [p]) (.lst vs) (.lst acc) := ⟨vs, rfl, Rvs.mono rs (Same.refl G) mo⟩
    refine w (.r m.length) (π ++ [p]) G _ (Same.refl G) (fun a _ e => e) (.inr rfl) (h.own hp hn hg ro) (show ∃ a, (π ++ [p])[m.length]? = some a ∧ V.ref p = V.ref a from ⟨p, ?_, rfl⟩) q
    rw [List.getElem?_append_right (by rw [h.len]; exact Nat.le_refl _)]
    simp [h.len]
/-- a new list, right behind its making -/
theorem newl {p : Addr} {vs : List V} {acc : List MV} {Q : QV} {R : VK} (h : Hk K π G H m) (hp : H p = none) (rs : Rvs K G π vs acc) (q : NewL acc m Q) (w : Wv K π G H Q R) : R (.ref p) (upd H p (.lst vs)) := by
  have hg := h.sub.free hp
  refine newl_at (K := K) (R := R) (h.grow (same_new hp)) upd_same (h.nin hp) hg rs q fun x π' G' m' sg ng e hk rx hq => ?_
  refine w _ x π' G' _ m' ⟨sg, ?_, fun a u h1 _ => by rw [upd_ne (ne_of_none h1 hp)]; exact h1, fun a h1 => ?_, fun a h1 h2 => ng a (fun z => by subst z; exact h1 hp) h2⟩ hk rx hq
  · rcases e with e | e
    · exact ⟨[], by simp [e], by simp⟩
    · exact ⟨[p], e, fun a ha => by simp at ha; subst ha; exact hp⟩
  · by_cases z : a = p
    · subst z; rw [upd_same]; simp
    · rw [upd_ne z]; exact h1
/-- a new tuple of data -/
theorem newt {p : Addr} {vs : List V} {ds : List PyData} {Q : QV} {R : VK} (h : Hk K π G H m) (hp : H p = none) (rs : DaAll K G vs ds) (q : Q (.d (.tuple ds)) m) (w : Wv K π G H Q R) : R (.ref p) (upd H p (.tup vs)) :=
  w _ (.d (.tuple ds)) π (upd G p (.tup vs)) _ m (Xt.new hp (h.sub.free hp)) (h.new hp) (Da.tup (SqT.of upd_same) (daAll_mono (same_new (h.sub.free hp)) rs)) q
end
end Wn
set_option Elab.async false
set_option linter.all false
set_option maxRecDepth 100000
set_option maxHeartbeats 2000000
set_option autoImplicit false
namespace Wn
open PySem L2

/-- a family of contexts that differ in nothing that a rule looks at -/
structure Fam {ι : Type} (X : ι → Cx) (P : Program) (w : World) (K : PySem.W.Frag) (mg : Str → Option Value) (base : Heap) (N : List Str) (sc : Scope) (fv : Str → Bool) (k : Nat) : Prop where
  nd : N.Nodup
  cP : ∀ j, (X j).prog = P
  cW : ∀ j, (X j).w = w
  cK : ∀ j, (X j).K = K
  cM : ∀ j, (X j).mg = mg
  cB : ∀ j, (X j).base = base
  cN : ∀ j, (X j).N = N
  cS : ∀ j, (X j).env.scope = sc
  calm : ∀ j, (X j).calm = true
  room : ∀ j, Room k (X j).A
  px : ∀ j, PassesOwn (model (X j).prog (X j).w) (X j).A (X j).env (X j).xe
  cF : ∀ j, (X j).fn = fv

section
variable {ι : Type}
def TeOf (X : ι → Cx) (e : Expr) : TE := fun σ H Q => ∃ t, (∀ j, PE (X j) e t) ∧ t σ H Q
def TtOf (X : ι → Cx) (e : Expr) : TT := fun σ H Q => ∃ t, (∀ j, PT (X j) e t) ∧ t σ H Q
def TwOf (X : ι → Cx) (e : Expr) : TT := fun σ H Q => ∃ t, (∀ j, PW (X j) e t) ∧ t σ H Q
def TaOf (X : ι → Cx) (es : List Expr) : TA := fun σ H Q => ∃ t, (∀ j, PA (X j) es t) ∧ t σ H Q
def OpOf (X : ι → Cx) (f : Value → Value → Sem Value) : R2 := fun x y H Q => ∃ r, (∀ j, OpR (X j) f r) ∧ r x y H Q
def IxOf (X : ι → Cx) : R2 := fun x y H Q => ∃ r, (∀ j, IxR (X j) r) ∧ r x y H Q
def CaOf (X : ι → Cx) (f : Value) : List V → Hp → VK → Prop := fun xs H Q => ∃ r, (∀ j, CallR (X j) f r) ∧ r xs H Q
theorem teOf (X : ι → Cx) (e : Expr) (j : ι) : PE (X j) e (TeOf X e) := ⟨fun pins s σ H Q I ⟨t, p, h⟩ => (p j).run pins s σ H Q I h⟩
theorem ttOf (X : ι → Cx) (e : Expr) (j : ι) : PT (X j) e (TtOf X e) := ⟨fun pins s σ H Q I ⟨t, p, h⟩ => (p j).run pins s σ H Q I h⟩
theorem twOf (X : ι → Cx) (e : Expr) (j : ι) : PW (X j) e (TwOf X e) := ⟨fun wh pins s σ H Q I ⟨t, p, h⟩ => (p j).run wh pins s σ H Q I h⟩
theorem taOf (X : ι → Cx) (e : List Expr) (j : ι) : PA (X j) e (TaOf X e) := ⟨fun pos pins s σ H Q I ⟨t, p, h⟩ => (p j).run pos pins s σ H Q I h⟩
theorem opOf (X : ι → Cx) (f : Value → Value → Sem Value) (j : ι) : OpR (X j) f (OpOf X f) := fun pins s σ H x y v u Q I rx ry ⟨r, p, h⟩ => p j pins s σ H x y v u Q I rx ry h
theorem ixOf (X : ι → Cx) (j : ι) : IxR (X j) (IxOf X) := fun va sl pins s σ H x y v u Q I rx ry ⟨r, p, h⟩ => p j va sl pins s σ H x y v u Q I rx ry h
theorem caOf (X : ι → Cx) (f : Value) (j : ι) : CallR (X j) f (CaOf X f) := fun pins s σ H xs us Q I rs ⟨r, p, h⟩ => p j pins s σ H xs us Q I rs h

def Wb (K : PySem.W.Frag) (π : List Addr) (G H : Hp) (Q : Bool → Mm → Prop) (R : Bool → Hp → Prop) : Prop := ∀ b π' G' H' m', Xt π G H π' G' H' → Hk K π' G' H' m' → Q b m' → R b H'
def Wl (K : PySem.W.Frag) (π : List Addr) (G H : Hp) (Q : List MV → Mm → Prop) (R : List V → Hp → Prop) : Prop := ∀ vs xs π' G' H' m', Xt π G H π' G' H' → Hk K π' G' H' m' → Rvs K G' π' vs xs → Q xs m' → R vs H'
def We (X : ι → Cx) (K : PySem.W.Frag) (e : Expr) (ρ : Ro) (m : Mm) (Q : QV) : Prop := ∀ π G σ H R, Hk K π G H m → Sk K π G σ ρ → Wv K π G H Q R → TeOf X e σ H R
def Wt (X : ι → Cx) (K : PySem.W.Frag) (e : Expr) (ρ : Ro) (m : Mm) (Q : Bool → Mm → Prop) : Prop := ∀ π G σ H R, Hk K π G H m → Sk K π G σ ρ → Wb K π G H Q R → TtOf X e σ H R
def Ww (X : ι → Cx) (K : PySem.W.Frag) (e : Expr) (ρ : Ro) (m : Mm) (Q : Bool → Mm → Prop) : Prop := ∀ π G σ H R, Hk K π G H m → Sk K π G σ ρ → Wb K π G H Q R → TwOf X e σ H R
def Wr (X : ι → Cx) (K : PySem.W.Frag) (es : List Expr) (ρ : Ro) (m : Mm) (Q : List MV → Mm → Prop) : Prop := ∀ π G σ H R, Hk K π G H m → Sk K π G σ ρ → Wl K π G H Q R → TaOf X es σ H R
def OpW (X : ι → Cx) (K : PySem.W.Frag) (f : Value → Value → Sem Value) (x y : MV) (m : Mm) (Q : QV) : Prop := ∀ π G H R u v, Hk K π G H m → Rv K G π u x → Rv K G π v y → Wv K π G H Q R → OpOf X f u v H R
def IxW (X : ι → Cx) (K : PySem.W.Frag) (x y : MV) (m : Mm) (Q : QV) : Prop := ∀ π G H R u v, Hk K π G H m → Rv K G π u x → Rv K G π v y → Wv K π G H Q R → IxOf X u v H R
def CaW (X : ι → Cx) (K : PySem.W.Frag) (f : Value) (xs : List MV) (m : Mm) (Q : QV) : Prop := ∀ π G H R vs, Hk K π G H m → Rvs K G π vs xs → Wv K π G H Q R → CaOf X f vs H R
end

section
variable {ι : Type} {X : ι → Cx} {P : Program} {w : World} {K : PySem.W.Frag} {mg : Str → Option Value} {base : Heap} {N : List Str} {sc : Scope} {fv : Str → Bool} {k : Nat} {ρ : Ro} {m : Mm} {Q Q' : QV} {a b c e : Expr} {pos p : Pos} {x y z : MV}
theorem We.mono (h : We X K e ρ m Q) (q : ∀ x m', Q x m' → Q' x m') : We X K e ρ m Q' := fun π G σ H R hk sk wv => h π G σ H R hk sk fun v x π' G' H' m' e hk' rv hq => wv v x π' G' H' m' e hk' rv (q x m' hq)
theorem Wt.mono {Q Q' : Bool → Mm → Prop} (h : Wt X K e ρ m Q) (q : ∀ x m', Q x m' → Q' x m') : Wt X K e ρ m Q' := fun π G σ H R hk sk wv => h π G σ H R hk sk fun v π' G' H' m' e hk' hq => wv v π' G' H' m' e hk' (q v m' hq)
theorem Wr.mono {es : List Expr} {Q Q' : List MV → Mm → Prop} (h : Wr X K es ρ m Q) (q : ∀ x m', Q x m' → Q' x m') : Wr X K es ρ m Q' := fun π G σ H R hk sk wv => h π G σ H R hk sk fun v x π' G' H' m' e hk' rv hq => wv v x π' G' H' m' e hk' rv (q x m' hq)
/-! names, constants -/
theorem we_var (F : Fam X P w K mg base N sc fv k) (i : Nat) {nm : Str} (hr : ρ[i]? = some (some x)) (q : Q x m) (hN : N[i]? = some nm := by rfl) (hv : Vis sc nm := by first | exact Or.inl rfl | exact Or.inr (Or.inl rfl) | exact Or.inr (Or.inr rfl))
    (hd : (nm == ("__debug__" : Str)) = false := by decide) (hcd : (nm == ("__classdict__" : Str)) = false := by decide) : We X K (.Name nm pos) ρ m Q := fun π G σ H R hk sk wv =>
  ⟨_, fun j => pe_var (i := i) (by rw [F.cN]; exact hN) (by rw [F.cS]; exact hv) hd hcd, let ⟨v, q1, q2⟩ := sk.get i x hr; ⟨v, q1, wv v x π G H m Xt.refl hk q2 q⟩⟩
theorem we_c {v : V} {d : PyData} (h : ∀ j, PE (X j) e (tC v)) (hd : ∀ G, Da K G v d) (q : Q (.d d) m) : We X K e ρ m Q := fun π G σ H R hk sk wv => ⟨_, h, wv v (.d d) π G H m Xt.refl hk (hd G) q⟩
theorem we_int {i : Int} {n : Nat} (q : Q (.d (.int i)) m) : We X K (.Constant (.int i) n pos) ρ m Q := we_c (fun _ => pe_int) (fun _ => .int i) q
theorem we_bl {i : Bool} {n : Nat} (q : Q (.d (.bool i)) m) : We X K (.Constant (.bool i) n pos) ρ m Q := we_c (fun _ => pe_bl) (fun _ => .bl i) q
theorem we_non {n : Nat} (q : Q (.d .none) m) : We X K (.Constant .none n pos) ρ m Q := we_c (fun _ => pe_non) (fun _ => .non) q
theorem we_str {i : Str} {n : Nat} (q : Q (.d (.str i)) m) : We X K (.Constant (.str i) n pos) ρ m Q := we_c (fun _ => pe_str) (fun _ => .str i) q
theorem Fam.gl (F : Fam X P w K mg base N sc fv k) {nm : Str} (h : sc.names.lookup nm = some .globalImplicit) (j : ι) : Gl (X j) nm := by
  show (X j).env.scope.names.lookup nm = _
  rw [F.cS]; exact h
theorem we_gint (F : Fam X P w K mg base N sc fv k) {nm : Str} {i : Int} (hm : ∃ t, mg nm = some (.int i t)) (q : Q (.d (.int i)) m) (hg : sc.names.lookup nm = some .globalImplicit := by rfl) (hb : (nm == ("__debug__" : Str)) = false := by decide) : We X K (.Name nm pos) ρ m Q := by
  obtain ⟨t, hm⟩ := hm
  exact we_c (v := .int i) (fun j => pe_glob (F.gl hg j) (by rw [F.cM j]; exact hm) ⟨t, rfl⟩ hb) (fun _ => .int i) q
/-! operators -/
theorem we_op {f : Value → Value → Sem Value} (hp : ∀ (j : ι) (r : R2) (ta tb : TE), OpR (X j) f r → PE (X j) a ta → PE (X j) b tb → PE (X j) c (tOp r ta tb)) (h : We X K a ρ m fun x m1 => We X K b ρ m1 fun y m2 => OpW X K f x y m2 Q) : We X K c ρ m Q := fun π G σ H R hk sk wv =>
  ⟨_, fun j => hp j _ _ _ (opOf X f j) (teOf X a j) (teOf X b j), h π G σ H _ hk sk fun u x π1 G1 H1 m1 e1 hk1 ru q1 => q1 π1 G1 σ H1 _ hk1 (sk.xt e1) fun v y π2 G2 H2 m2 e2 hk2 rv q2 =>
    q2 π2 G2 H2 R u v hk2 (ru.xt e2) rv (wv.xt (e1.trans e2))⟩
theorem we_bin {op : Operator} (h : We X K a ρ m fun x m1 => We X K b ρ m1 fun y m2 => OpW X K (binaryOp op) x y m2 Q) : We X K (.BinOp a op b pos) ρ m Q := we_op (fun j r ta tb ho ha hb => pe_op ho ha hb) h
theorem we_cmp {op : CmpOp} (h : We X K a ρ m fun x m1 => We X K b ρ m1 fun y m2 => OpW X K (compareOp op) x y m2 Q) (hm : behindInMarks op b = false := by first | exact nomark _ | rfl) : We X K (.Compare a [op] [b] pos) ρ m Q := we_op (fun j r ta tb ho ha hb => pe_cmpR ho ha hb hm) h
theorem we_chain {op op' : CmpOp} (h : We X K a ρ m fun x m1 => We X K b ρ m1 fun y m2 => OpW X K (compareOp op) x y m2 fun z m3 => ∃ k : Bool, z = .d (.bool k) ∧ (if k = true then We X K c ρ m3 fun u m4 => OpW X K (compareOp op') y u m4 Q else Q (.d (.bool false)) m3))
    (hm : lastMarks [op, op'] [b, c] = false := by with_unfolding_all rfl) : We X K (.Compare a [op, op'] [b, c] pos) ρ m Q := fun π G σ H R hk sk wv => by
  refine ⟨_, fun j => pe_chain (opOf X (compareOp op) j) (opOf X (compareOp op') j) (teOf X a j) (teOf X b j) (teOf X c j) hm, ?_⟩
  refine h π G σ H _ hk sk fun u x π1 G1 H1 m1 e1 hk1 ru q1 => q1 π1 G1 σ H1 _ hk1 (sk.xt e1) fun v y π2 G2 H2 m2 e2 hk2 rv q2 => q2 π2 G2 H2 _ u v hk2 (ru.xt e2) rv fun z zx π3 G3 H3 m3 e3 hk3 rz ⟨kk, ez, q3⟩ => ?_
  subst ez
  have e13 := (e1.trans e2).trans e3
  refine ⟨kk, Da.blI rz, ?_⟩
  cases kk with
  | true =>
    rw [if_pos rfl] at q3 ⊢
    exact q3 π3 G3 σ H3 _ hk3 (sk.xt e13) fun v4 y4 π4 G4 H4 m4 e4 hk4 rv4 q4 => q4 π4 G4 H4 R v v4 hk4 (rv.xt (e3.trans e4)) rv4 (wv.xt (e13.trans e4))
  | false =>
    rw [if_neg Bool.false_ne_true] at q3 ⊢
    exact wv _ (.d (.bool false)) π3 G3 H3 m3 e13 hk3 (Da.bl false) q3
theorem we_one {op : BoolOp} (h : We X K a ρ m Q) : We X K (.BoolOp op [a] pos) ρ m Q := fun π G σ H R hk sk wv => ⟨_, fun j => pe_one (teOf X a j), h π G σ H R hk sk wv⟩
theorem we_and {rest : List Expr} (h : We X K a ρ m fun x m1 => ∃ k : Bool, x = .d (.bool k) ∧ (if k = true then We X K (.BoolOp .And (b :: rest) pos) ρ m1 Q else Q (.d (.bool false)) m1)) : We X K (.BoolOp .And (a :: b :: rest) pos) ρ m Q := fun π G σ H R hk sk wv =>
  ⟨_, fun j => pe_and (teOf X a j) (teOf X _ j), h π G σ H _ hk sk fun u x π1 G1 H1 m1 e1 hk1 ru ⟨k, ex, q1⟩ => by
    subst ex
    refine ⟨k, Da.blI ru, ?_⟩
    cases k with
    | true => rw [if_pos rfl] at q1 ⊢; exact q1 π1 G1 σ H1 R hk1 (sk.xt e1) (wv.xt e1)
    | false => rw [if_neg Bool.false_ne_true] at q1 ⊢; exact wv _ (.d (.bool false)) π1 G1 H1 m1 e1 hk1 (Da.bl false) q1⟩
theorem we_or {rest : List Expr} (h : We X K a ρ m fun x m1 => ∃ k : Bool, x = .d (.bool k) ∧ (if k = true then Q (.d (.bool true)) m1 else We X K (.BoolOp .Or (b :: rest) pos) ρ m1 Q)) : We X K (.BoolOp .Or (a :: b :: rest) pos) ρ m Q := fun π G σ H R hk sk wv =>
  ⟨_, fun j => pe_or (teOf X a j) (teOf X _ j), h π G σ H _ hk sk fun u x π1 G1 H1 m1 e1 hk1 ru ⟨k, ex, q1⟩ => by
    subst ex
    refine ⟨k, Da.blI ru, ?_⟩
    cases k with
    | false => rw [if_neg Bool.false_ne_true] at q1 ⊢; exact q1 π1 G1 σ H1 R hk1 (sk.xt e1) (wv.xt e1)
    | true => rw [if_pos rfl] at q1 ⊢; exact wv _ (.d (.bool true)) π1 G1 H1 m1 e1 hk1 (Da.bl true) q1⟩
theorem we_not (h : We X K a ρ m fun x m1 => ∃ k : Bool, x = .d (.bool k) ∧ Q (.d (.bool (!k))) m1) : We X K (.UnaryOp .Not a pos) ρ m Q := fun π G σ H R hk sk wv =>
  ⟨_, fun j => pe_not (teOf X a j), h π G σ H _ hk sk fun u x π1 G1 H1 m1 e1 hk1 ru ⟨k, ex, q1⟩ => by
    subst ex
    exact ⟨k, Da.blI ru, wv _ (.d (.bool (!k))) π1 G1 H1 m1 e1 hk1 (Da.bl _) q1⟩⟩
theorem we_neg (h : We X K a ρ m fun x m1 => ∃ i : Int, x = .d (.int i) ∧ Q (.d (.int (-i))) m1) (hu : ∀ j, UnR (X j) (unaryOp .USub) (rU fun i => .int (-i))) : We X K (.UnaryOp .USub a pos) ρ m Q := fun π G σ H R hk sk wv =>
  ⟨_, fun j => pe_un (hu j) (teOf X a j), h π G σ H _ hk sk fun u x π1 G1 H1 m1 e1 hk1 ru ⟨k, ex, q1⟩ => by
    subst ex
    exact ⟨k, Da.intI ru, wv _ (.d (.int (-k))) π1 G1 H1 m1 e1 hk1 (Da.int _) q1⟩⟩
/-! tests -/
theorem wt_val {Q : Bool → Mm → Prop} (h : We X K e ρ m fun x m1 => ∃ k : Bool, x = .d (.bool k) ∧ Q k m1) (he : ∀ (env : Env) whole, isTrue e env whole = (do let v ← whole; standAt e.pos; holding [v] (truthy v)) := by intro _ _; rfl) : Wt X K e ρ m Q := fun π G σ H R hk sk wb =>
  ⟨_, fun j => pt_val (teOf X e j) (he _), h π G σ H _ hk sk fun u x π1 G1 H1 m1 e1 hk1 ru ⟨k, ex, q1⟩ => by
    subst ex
    exact ⟨k, Da.blI ru, wb k π1 G1 H1 m1 e1 hk1 q1⟩⟩
theorem wt_cmp {op : CmpOp} {Q : Bool → Mm → Prop} (h : We X K a ρ m fun x m1 => We X K b ρ m1 fun y m2 => OpW X K (compareOp op) x y m2 fun z m3 => ∃ k : Bool, z = .d (.bool k) ∧ Q k m3) (hm : behindInMarks op b = false := by first | exact nomark _ | rfl) : Wt X K (.Compare a [op] [b] pos) ρ m Q := fun π G σ H R hk sk wb =>
  ⟨_, fun j => pt_cmpR (opOf X (compareOp op) j) (teOf X a j) (teOf X b j) hm, h π G σ H _ hk sk fun u x π1 G1 H1 m1 e1 hk1 ru q1 => q1 π1 G1 σ H1 _ hk1 (sk.xt e1) fun v y π2 G2 H2 m2 e2 hk2 rv q2 =>
    q2 π2 G2 H2 _ u v hk2 (ru.xt e2) rv fun z zx π3 G3 H3 m3 e3 hk3 rz ⟨kk, ez, q3⟩ => by
      subst ez
      exact ⟨kk, Da.blI rz, wb kk π3 G3 H3 m3 ((e1.trans e2).trans e3) hk3 q3⟩⟩
theorem wt_not {Q : Bool → Mm → Prop} (h : Wt X K a ρ m fun k m1 => Q (!k) m1) : Wt X K (.UnaryOp .Not a pos) ρ m Q := fun π G σ H R hk sk wb =>
  ⟨_, fun j => pt_not (ttOf X a j), h π G σ H _ hk sk fun k π1 G1 H1 m1 e1 hk1 q1 => wb (!k) π1 G1 H1 m1 e1 hk1 q1⟩
theorem wt_w {Q : Bool → Mm → Prop} (h : Ww X K a ρ m Q) : Wt X K a ρ m Q := fun π G σ H R hk sk wb => ⟨_, fun j => (twOf X a j).pt, h π G σ H R hk sk wb⟩
theorem ww_and1 {Q : Bool → Mm → Prop} (h : Wt X K a ρ m Q) : Ww X K (.BoolOp .And [a] pos) ρ m Q := fun π G σ H R hk sk wb => ⟨_, fun j => pw_and1 (ttOf X a j), h π G σ H R hk sk wb⟩
theorem ww_or1 {Q : Bool → Mm → Prop} (h : Wt X K a ρ m Q) : Ww X K (.BoolOp .Or [a] pos) ρ m Q := fun π G σ H R hk sk wb => ⟨_, fun j => pw_or1 (ttOf X a j), h π G σ H R hk sk wb⟩
theorem ww_and {rest : List Expr} {Q : Bool → Mm → Prop} (h : Wt X K a ρ m fun k m1 => if k = true then Ww X K (.BoolOp .And (b :: rest) pos) ρ m1 Q else Q false m1) : Ww X K (.BoolOp .And (a :: b :: rest) pos) ρ m Q := fun π G σ H R hk sk wb =>
  ⟨_, fun j => pw_and (ttOf X a j) (twOf X _ j), h π G σ H _ hk sk fun k π1 G1 H1 m1 e1 hk1 q1 => by
    cases k with
    | true => rw [if_pos rfl] at q1 ⊢; exact q1 π1 G1 σ H1 R hk1 (sk.xt e1) fun b π' G' H' m' e' => wb b π' G' H' m' (e1.trans e')
    | false => rw [if_neg Bool.false_ne_true] at q1 ⊢; exact wb false π1 G1 H1 m1 e1 hk1 q1⟩
theorem ww_or {rest : List Expr} {Q : Bool → Mm → Prop} (h : Wt X K a ρ m fun k m1 => if k = true then Q true m1 else Ww X K (.BoolOp .Or (b :: rest) pos) ρ m1 Q) : Ww X K (.BoolOp .Or (a :: b :: rest) pos) ρ m Q := fun π G σ H R hk sk wb =>
  ⟨_, fun j => pw_or (ttOf X a j) (twOf X _ j), h π G σ H _ hk sk fun k π1 G1 H1 m1 e1 hk1 q1 => by
    cases k with
    | false => rw [if_neg Bool.false_ne_true] at q1 ⊢; exact q1 π1 G1 σ H1 R hk1 (sk.xt e1) fun b π' G' H' m' e' => wb b π' G' H' m' (e1.trans e')
    | true => rw [if_pos rfl] at q1 ⊢; exact wb true π1 G1 H1 m1 e1 hk1 q1⟩
theorem we_ifExp (h : Wt X K c ρ m fun k m1 => if k = true then We X K a ρ m1 Q else We X K b ρ m1 Q) : We X K (.IfExp c a b pos) ρ m Q := fun π G σ H R hk sk wv =>
  ⟨_, fun j => pe_ifExp (ttOf X c j) (teOf X a j) (teOf X b j), h π G σ H _ hk sk fun k π1 G1 H1 m1 e1 hk1 q1 => by
    cases k with
    | true => rw [if_pos rfl] at q1 ⊢; exact q1 π1 G1 σ H1 R hk1 (sk.xt e1) (wv.xt e1)
    | false => rw [if_neg Bool.false_ne_true] at q1 ⊢; exact q1 π1 G1 σ H1 R hk1 (sk.xt e1) (wv.xt e1)⟩
/-! arguments, displays -/
theorem wr_nil {Q : List MV → Mm → Prop} (q : Q [] m) : Wr X K [] ρ m Q := fun π G σ H R hk sk wl => ⟨_, fun _ => pa_nil, wl [] [] π G H m Xt.refl hk .nil q⟩
theorem wr_cons {es : List Expr} {Q : List MV → Mm → Prop} (h : We X K e ρ m fun x m1 => Wr X K es ρ m1 fun xs m2 => Q (x :: xs) m2) (hs : ∀ env : Env, starEach (e :: es) env = (false, eval e env) :: starEach es env := by intro _; rfl) : Wr X K (e :: es) ρ m Q := fun π G σ H R hk sk wl =>
  ⟨_, fun j => pa_cons (teOf X e j) (taOf X es j) (hs _), h π G σ H _ hk sk fun u x π1 G1 H1 m1 e1 hk1 ru q1 => q1 π1 G1 σ H1 _ hk1 (sk.xt e1) fun vs xs π2 G2 H2 m2 e2 hk2 rvs q2 =>
    wl (u :: vs) (x :: xs) π2 G2 H2 m2 (e1.trans e2) hk2 (.cons (ru.xt e2) rvs) q2⟩
theorem we_tup {es : List Expr} {n : Nat} (h : Wr X K es ρ m fun xs m1 => ∃ ds : List PyData, xs = ds.map .d ∧ ds.length ≤ 1000 ∧ Q (.d (.tuple ds)) m1) : We X K (.Tuple es n pos) ρ m Q := fun π G σ H R hk sk wv =>
  ⟨_, fun j => pe_tup (taOf X es j), h π G σ H _ hk sk fun vs xs π1 G1 H1 m1 e1 hk1 rvs ⟨ds, ex, hl, q⟩ => by
    subst ex
    have rd := rvs_data rvs
    exact ⟨by rw [rd.len]; exact Nat.le_trans hl (by decide), fun p hp => newt hk1 hp rd q (wv.xt e1)⟩⟩
theorem we_lst {es : List Expr} (h : Wr X K es ρ m fun xs m1 => xs.length ≤ 1000 ∧ NewL xs m1 Q) : We X K (.List es pos) ρ m Q := fun π G σ H R hk sk wv =>
  ⟨_, fun j => pe_lst (taOf X es j), h π G σ H _ hk sk fun vs xs π1 G1 H1 m1 e1 hk1 rvs ⟨hl, q⟩ =>
    ⟨by rw [Paired.length rvs]; exact Nat.le_trans hl (by decide), fun p hp => newl hk1 hp rvs q (wv.xt e1)⟩⟩
/-! indexes -/
theorem we_ix (h : We X K a ρ m fun x m1 => We X K b ρ m1 fun y m2 => IxW X K x y m2 Q) (hs : PlainIx b := by intro _ _; rfl) : We X K (.Subscript a b pos) ρ m Q := fun π G σ H R hk sk wv =>
  ⟨_, fun j => pe_ix (ixOf X j) (teOf X a j) (teOf X b j) hs, h π G σ H _ hk sk fun u x π1 G1 H1 m1 e1 hk1 ru q1 => q1 π1 G1 σ H1 _ hk1 (sk.xt e1) fun v y π2 G2 H2 m2 e2 hk2 rv q2 =>
    q2 π2 G2 H2 R u v hk2 (ru.xt e2) rv (wv.xt (e1.trans e2))⟩
/-! calls of built-ins -/
theorem we_callB (F : Fam X P w K mg base N sc fv k) {nm : Str} {id : String} {es : List Expr} (h : Wr X K (e :: es) ρ m fun xs m1 => CaW X K (.builtin id) xs m1 Q) (hm : mg nm = none) (hv : bootBuiltins nm = some (.builtin id)) (hg : sc.names.lookup nm = some .globalImplicit := by rfl)
    (hn : nm ≠ "__name__" := by decide) (hdb : (nm == ("__debug__" : Str)) = false := by decide) (he : ∀ env : Env, starEach (e :: es) env = (false, eval e env) :: starEach es env := by intro _; rfl) (hpl : ∀ env : Env, (backTo pos (starEach es env)).any (·.1) = false := by intro _; rfl) :
    We X K (.Call (.Name nm p) (e :: es) [] pos) ρ m Q := fun π G σ H R hk sk wv =>
  ⟨_, fun j => pe_callB (caOf X (.builtin id) j) (F.gl hg j) (by rw [F.cM]; exact hm) hv (taOf X _ j) hn hdb (he _) (hpl _), h π G σ H _ hk sk fun vs xs π1 G1 H1 m1 e1 hk1 rvs q => q π1 G1 H1 R vs hk1 rvs (wv.xt e1)⟩
theorem we_callT (F : Fam X P w K mg base N sc fv k) {nm : Str} {id : String} {es : List Expr} (h : Wr X K (e :: es) ρ m fun xs m1 => CaW X K (.type id) xs m1 Q) (hm : mg nm = none) (hv : bootBuiltins nm = some (.type id)) (hg : sc.names.lookup nm = some .globalImplicit := by rfl)
    (hn : nm ≠ "__name__" := by decide) (hdb : (nm == ("__debug__" : Str)) = false := by decide) (he : ∀ env : Env, starEach (e :: es) env = (false, eval e env) :: starEach es env := by intro _; rfl) (hpl : ∀ env : Env, (backTo pos (starEach es env)).any (·.1) = false := by intro _; rfl) :
    We X K (.Call (.Name nm p) (e :: es) [] pos) ρ m Q := fun π G σ H R hk sk wv =>
  ⟨_, fun j => pe_callTy (caOf X (.type id) j) (F.gl hg j) (by rw [F.cM]; exact hm) hv (taOf X _ j) hn hdb (he _) (hpl _), h π G σ H _ hk sk fun vs xs π1 G1 H1 m1 e1 hk1 rvs q => q π1 G1 H1 R vs hk1 rvs (wv.xt e1)⟩
/-! own defs -/
def spM (K : PySem.W.Frag) (S : List MV → Mm → QV → Prop) : Sp := fun vs H Q _ => ∃ π G m xs Qm, Hk K π G H m ∧ Rvs K G π vs xs ∧ S xs m Qm ∧ Wv K π G H Qm Q
def Cal (P : Program) (w : World) (K : PySem.W.Frag) (mg : Str → Option Value) (base : Heap) (k : Nat) (nm : Str) (n : Nat) (S : List MV → Mm → QV → Prop) : Prop :=
  ∃ f fd ps, FnOk P w K mg base CX0 k f fd ps (spM K S) ∧ mg nm = some (.ref f) ∧ PySem.W.keepIn K (.ref f) = true ∧ Binds K fd ps [] ∧ ps.length = n
theorem we_call (F : Fam X P w K mg base N sc fv k) {k' n : Nat} {nm : Str} {S : List MV → Mm → QV → Prop} {es : List Expr} (C : Cal P w K mg base k' nm n S) (hk' : k' ≤ k) (h : Wr X K (e :: es) ρ m fun xs m1 => S xs m1 Q) (hg : sc.names.lookup nm = some .globalImplicit := by rfl)
    (hdb : (nm == ("__debug__" : Str)) = false := by decide) (he : ∀ env : Env, starEach (e :: es) env = (false, eval e env) :: starEach es env := by intro _; rfl) (hpl : ∀ env : Env, (backTo pos (starEach es env)).any (·.1) = false := by intro _; rfl) :
    We X K (.Call (.Name nm p) (e :: es) [] pos) ρ m Q := fun π G σ H R hk sk wv => by
  obtain ⟨f, fd, ps, ok, hm, kp, bn, _⟩ := C
  refine ⟨tCall (spM K S) [] E0 (TaOf X (e :: es)), fun j => ?_, h π G σ H _ hk sk fun vs xs π1 G1 H1 m1 e1 hk1 rvs q => ?_⟩
  · have ok' : FnOk (X j).prog (X j).w (X j).K (X j).mg (X j).base CX0 k' f fd ps (spM K S) := by rw [F.cP, F.cW, F.cK, F.cM, F.cB]; exact ok
    exact pe_call ok' ((F.room j).mono hk') (F.gl hg j) (by rw [F.cM]; exact hm) (by rw [F.cK]; exact kp) (by rw [F.cK]; exact bn) .nil pass0 (taOf X _ j) hdb (he _) (hpl _)
  · rw [List.append_nil]
    exact ⟨π1, G1, m1, xs, Q, hk1, rvs, q, wv.xt e1⟩
/-! methods, instances -/
def Cam (P : Program) (w : World) (K : PySem.W.Frag) (mg : Str → Option Value) (base : Heap) (k : Nat) (C : Addr) (nm : Str) (S : List MV → Mm → QV → Prop) : Prop :=
  ∃ f fd ps, FnOk P w K mg base CX0 k f fd ps (spM K S) ∧ Cls K C ∧ Meth K C nm f ∧ Binds K fd ps []
theorem fields_lookup {G : Hp} {π : List Addr} {nm : Str} : ∀ {fs : List (Str × V)} {gs : List (Str × MV)}, Paired (Rf K G π) fs gs → (gs.lookup nm = none → fs.lookup nm = none) ∧ ∀ x, gs.lookup nm = some x → ∃ v, fs.lookup nm = some v ∧ Rv K G π v x
  | _, _, .nil => ⟨fun _ => rfl, fun x h => by simp at h⟩
  | _, _, .cons (a := p) (b := q) r t => by
    obtain ⟨i1, i2⟩ := fields_lookup (nm := nm) t
    obtain ⟨p1, p2⟩ := p
    obtain ⟨q1, q2⟩ := q
    obtain ⟨e, rv⟩ := r
    have e' : p1 = q1 := e
    subst e'
    simp only [List.lookup_cons]
    cases (nm == p1) with
    | true => exact ⟨fun h => by simp at h, fun x h => by simp at h; subst h; exact ⟨p2, rfl, rv⟩⟩
    | false => exact ⟨i1, i2⟩
theorem we_meth (F : Fam X P w K mg base N sc fv k) {k' : Nat} {C : Addr} {nm : Str} {S : List MV → Mm → QV → Prop} {es : List Expr} {apos : Pos} {o : Expr} (M : Cam P w K mg base k' C nm S) (hk' : k' ≤ k)
    (h : We X K o ρ m fun x m1 => ∃ i fs, x = .r i ∧ m1[i]? = some (.ins C fs) ∧ fs.lookup nm = none ∧ Wr X K (e :: es) ρ m1 fun xs m2 => S (.r i :: xs) m2 Q)
    (he : ∀ env : Env, starEach (e :: es) env = (false, eval e env) :: starEach es env := by intro _; rfl) (hpl : ∀ env : Env, (backTo pos (starEach es env)).any (·.1) = false := by intro _; rfl)
    {pl : Env → Sem Bool} (ht : ∀ env : Env, eval (.Call (.Attribute o nm apos) (e :: es) [] pos) env = (do
      let ov ← eval o env
      standAt apos.atName
      let (f, first) ← holding [ov] (getMethod ov nm (pl env))
      callWith pos f first (backTo pos (starEach (e :: es) env)) (backToKw pos (keywordEach [] env))) := by intro _; rfl) :
    We X K (.Call (.Attribute o nm apos) (e :: es) [] pos) ρ m Q := fun π G σ H R hk sk wv => by
  obtain ⟨f, fd, ps, ok, cl, hm, bn⟩ := M
  refine ⟨tMeth C nm (spM K S) [] E0 (TeOf X o) (TaOf X (e :: es)), fun j => ?_, h π G σ H _ hk sk fun u x π1 G1 H1 m1 e1 hk1 ru ⟨i, fs, ex, hi, hl, q1⟩ => ?_⟩
  · have ok' : FnOk (X j).prog (X j).w (X j).K (X j).mg (X j).base CX0 k' f fd ps (spM K S) := by rw [F.cP, F.cW, F.cK, F.cM, F.cB]; exact ok
    exact pe_meth (teOf X o j) (by rw [F.cK]; exact cl) (by rw [F.cK]; exact hm) ok' ((F.room j).mono hk') (by rw [F.cK]; exact bn) .nil pass0 (taOf X _ j) (he _) (hpl _) (ht _)
  · subst ex
    obtain ⟨a, ha, rfl⟩ := ru
    obtain ⟨a', u', h1, h2, dx, fs', eu, rf⟩ := hk1.obj i _ hi
    rw [ha] at h1; cases h1
    subst eu
    refine ⟨a, dx, fs', rfl, h2, (fields_lookup rf).1 hl, q1 π1 G1 σ H1 _ hk1 (sk.xt e1) fun vs xs π2 G2 H2 m2 e2 hk2 rvs q2 => ?_⟩
    rw [List.append_nil]
    exact ⟨π2, G2, m2, .r i :: xs, Q, hk2, .cons ⟨a, e2.get ha, rfl⟩ rvs, q2, wv.xt (e1.trans e2)⟩
theorem we_meth0 (F : Fam X P w K mg base N sc fv k) {k' : Nat} {C : Addr} {nm : Str} {S : List MV → Mm → QV → Prop} {apos : Pos} {o : Expr} (M : Cam P w K mg base k' C nm S) (hk' : k' ≤ k)
    (h : We X K o ρ m fun x m1 => ∃ i fs, x = .r i ∧ m1[i]? = some (.ins C fs) ∧ fs.lookup nm = none ∧ S [.r i] m1 Q)
    {pl : Env → Sem Bool} (ht : ∀ env : Env, eval (.Call (.Attribute o nm apos) [] [] pos) env = (do
      let ov ← eval o env
      standAt apos.atName
      let (f, first) ← holding [ov] (getMethod ov nm (pl env))
      callWith pos f first (backTo pos (starEach [] env)) (backToKw pos (keywordEach [] env))) := by intro _; rfl) :
    We X K (.Call (.Attribute o nm apos) [] [] pos) ρ m Q := fun π G σ H R hk sk wv => by
  obtain ⟨f, fd, ps, ok, cl, hm, bn⟩ := M
  refine ⟨tMeth C nm (spM K S) [] E0 (TeOf X o) tNil, fun j => ?_, h π G σ H _ hk sk fun u x π1 G1 H1 m1 e1 hk1 ru ⟨i, fs, ex, hi, hl, q1⟩ => ?_⟩
  · have ok' : FnOk (X j).prog (X j).w (X j).K (X j).mg (X j).base CX0 k' f fd ps (spM K S) := by rw [F.cP, F.cW, F.cK, F.cM, F.cB]; exact ok
    exact pe_meth0 (teOf X o j) (by rw [F.cK]; exact cl) (by rw [F.cK]; exact hm) ok' ((F.room j).mono hk') (by rw [F.cK]; exact bn) .nil pass0 (ht _)
  · subst ex
    obtain ⟨a, ha, rfl⟩ := ru
    obtain ⟨a', u', h1, h2, dx, fs', eu, rf⟩ := hk1.obj i _ hi
    rw [ha] at h1; cases h1
    subst eu
    exact ⟨a, dx, fs', rfl, h2, (fields_lookup rf).1 hl, ⟨π1, G1, m1, [.r i], Q, hk1, .cons ⟨a, ha, rfl⟩ .nil, q1, wv.xt e1⟩⟩
def Cak (P : Program) (w : World) (K : PySem.W.Frag) (mg : Str → Option Value) (base : Heap) (k : Nat) (C : Addr) (nm : Str) (S : List MV → Mm → QV → Prop) : Prop :=
  ∃ f fd ps, FnOk P w K mg base CX0 k f fd ps (spM K S) ∧ Mk K C f ∧ mg nm = some (.ref C) ∧ Binds K fd ps []
theorem we_make (F : Fam X P w K mg base N sc fv k) {k' : Nat} {C : Addr} {nm : Str} {S : List MV → Mm → QV → Prop} {es : List Expr} (M : Cak P w K mg base k' C nm S) (hk' : k' + 1 ≤ k)
    (h : Wr X K (e :: es) ρ m fun xs m1 => S (.r m1.length :: xs) (m1 ++ [.ins C []]) fun y m2 => y = .d .none ∧ Q (.r m1.length) m2) (hg : sc.names.lookup nm = some .globalImplicit := by rfl)
    (hdb : (nm == ("__debug__" : Str)) = false := by decide) (he : ∀ env : Env, starEach (e :: es) env = (false, eval e env) :: starEach es env := by intro _; rfl) (hpl : ∀ env : Env, (backTo pos (starEach es env)).any (·.1) = false := by intro _; rfl) :
    We X K (.Call (.Name nm p) (e :: es) [] pos) ρ m Q := fun π G σ H R hk sk wv => by
  obtain ⟨f, fd, ps, ok, mk, hm, bn⟩ := M
  refine ⟨tMake C (spM K S) [] E0 (TaOf X (e :: es)), fun j => ?_, h π G σ H _ hk sk fun vs xs π1 G1 H1 m1 e1 hk1 rvs q x dx hx hdx ne => ?_⟩
  · have ok' : FnOk (X j).prog (X j).w (X j).K (X j).mg (X j).base CX0 k' f fd ps (spM K S) := by rw [F.cP, F.cW, F.cK, F.cM, F.cB]; exact ok
    exact pe_make (by rw [F.cK]; exact mk) ok' ((F.room j).mono hk') (F.gl hg j) (by rw [F.cM]; exact hm) (by rw [F.cK]; exact bn) .nil pass0 (taOf X _ j) hdb (he _) (hpl _)
  · rw [List.append_nil]
    have hx' : upd H1 dx (.own x) x = none := by rw [upd_ne (Ne.symm ne)]; exact hx
    have hk2 : Hk K π1 G1 (upd H1 dx (.own x)) m1 := hk1.grow (same_new hdx)
    have hk3 : Hk K (π1 ++ [x]) G1 (upd (upd H1 dx (.own x)) x (.ins C dx [])) (m1 ++ [.ins C []]) := hk2.alloc hx' (show Rob K G1 (π1 ++ [x]) (.ins C dx []) (.ins C []) from ⟨dx, [], rfl, .nil⟩)
    have ex : Xt π1 G1 H1 π1 G1 (upd H1 dx (.own x)) := ⟨Same.refl _, ⟨[], by simp, by simp⟩, fun a u h _ => by rw [upd_ne (ne_of_none h hdx)]; exact h, fun a h => by
      by_cases q : a = dx
      · subst q; rw [upd_same]; simp
      · rw [upd_ne q]; exact h, fun _ _ h => h⟩
    have e3 : Xt π1 G1 H1 (π1 ++ [x]) G1 (upd (upd H1 dx (.own x)) x (.ins C dx [])) := ex.trans (Xt.alloc hx')
    have rx : Rv K G1 (π1 ++ [x]) (.ref x) (.r m1.length) := by
      refine ⟨x, ?_, rfl⟩
      rw [List.getElem?_append_right (by rw [hk1.len]; exact Nat.le_refl _)]
      simp [hk1.len]
    refine ⟨π1 ++ [x], G1, m1 ++ [.ins C []], .r m1.length :: xs, _, hk3, .cons rx (Rvs.xt rvs e3), q, fun v y π4 G4 H4 m4 e4 hk4 ry ⟨ey, qy⟩ => ?_⟩
    subst ey
    exact ⟨Da.nonI ry, wv _ (.r m1.length) π4 G4 H4 m4 ((e1.trans e3).trans e4) hk4 (rx.xt e4) qy⟩
theorem we_fld (F : Fam X P w K mg base N sc fv k) {f : Str} (h : We X K a ρ m fun x m1 => ∃ i C fs y, x = .r i ∧ m1[i]? = some (.ins C fs) ∧ Cls K C ∧ NoAttr K C f ∧ fs.lookup f = some y ∧ Q y m1) (hb : ∀ env : Env, attributeBase a f env (eval a env) = eval a env := by intro _; rfl) :
    We X K (.Attribute a f pos) ρ m Q := fun π G σ H R hk sk wv =>
  ⟨tFld K (TeOf X a) f, fun j => F.cK j ▸ pe_fld (teOf X a j) (hb _), h π G σ H _ hk sk fun u x π1 G1 H1 m1 e1 hk1 ru ⟨i, C, fs, y, ex, hi, cl, na, hl, q1⟩ => by
    subst ex
    obtain ⟨c, hc, rfl⟩ := ru
    obtain ⟨a', u', h1, h2, dx, fs', eu, rf⟩ := hk1.obj i _ hi
    rw [hc] at h1; cases h1
    subst eu
    obtain ⟨v, hv, rv⟩ := (fields_lookup rf).2 y hl
    exact ⟨c, C, dx, fs', v, rfl, h2, cl, na, hv, wv v y π1 G1 H1 m1 e1 hk1 rv q1⟩⟩
end
end Wn
set_option Elab.async false
set_option linter.all false
set_option maxRecDepth 100000
set_option maxHeartbeats 2000000
set_option autoImplicit false
namespace PySem
open Sem (wp)
theorem meets_enumerate_newW {v : Value} {o : Obj} {H : Heap → Prop} (B : Begins v o H) :
    Meets (Builtin.«enumerate.__new__» ⟨[.type "enumerate", v], []⟩) (fun _ R s => H s.heap ∧
      R (.ok (.ret (.ref (s.heap.push o).objs.size))) { s with heap := (s.heap.push o).push { cls := .type "enumerate", data := .fields #[.none, .bool false, .ref s.heap.objs.size, rawInt 0, .none, .none] } }) :=
  .of_wp fun prog w A R s h => by
    obtain ⟨hp, g, d, tk, os⟩ := s; obtain ⟨h1, h⟩ := h
    have hsub := sub_enumerate
    have q1 : ∀ {A' : Around} {E : Value → Shared → Prop} {Q : Value → Shared → Prop}, Q (.ref hp.objs.size) ⟨hp.push o, g, d, tk, os⟩ → wpAny (model prog w) A' (pyIter v) Q E ⟨hp, g, d, tk, os⟩ :=
      fun q => B.iter prog w _ _ ⟨hp, g, d, tk, os⟩ _ h1 q
    wp_walk using q1
    refine wpAny_stack_any fun st => wpAny_pure ?_
    split
    · rename_i c _ _ _ _ _
      cases (c == Value.type "enumerate")
      · wp_walk using q1
        exact ⟨_, rfl, h⟩
      · wp_walk using q1
        exact ⟨_, rfl, h⟩
    · wp_walk using q1
      exact ⟨_, rfl, h⟩
theorem enum_beginsW {prog : Program} {w : World} {A : Around} {E : Value → Shared → Prop} {s : Shared} {v : Value} {o : Obj} {H : Heap → Prop} {Q : Value → Shared → Prop} (B : Begins v o H) (h1 : H s.heap)
    (h : ∀ h', IsEnum h' (s.heap.objs.size + 1) s.heap.objs.size 0 .none → h'.get? s.heap.objs.size = some o → h'.objs.size = s.heap.objs.size + 2 →
      (∀ b o, s.heap.get? b = some o → h'.get? b = some o) → Q (.ref (s.heap.objs.size + 1)) { s with heap := h' }) :
    wpAny (model prog w) A (call (.type "enumerate") [v]) Q E s := by
  refine callType_new F.called_enumerate (by decide) (F.typeCall_enumerate_1 _) (F.newCall_enumerate_1 _) (fun obj => F.args_object_init_2 obj _) F.entry_enumerate_new
    (meets_enumerate_newW B) ⟨h1, ?_⟩
  have hz : (s.heap.push o).objs.size = s.heap.objs.size + 1 := Heap.size_push ..
  show _ ∧ _
  rw [hz]
  have he : IsEnum ((s.heap.push o).push { cls := .type "enumerate", data := .fields #[.none, .bool false, .ref s.heap.objs.size, rawInt 0, .none, .none] }) (s.heap.objs.size + 1) s.heap.objs.size 0 .none := by
    have := Heap.get?_push_size (s.heap.push o) (o := { cls := .type "enumerate", data := .fields #[.none, .bool false, .ref s.heap.objs.size, rawInt 0, .none, .none] }) rfl
    rw [hz] at this; exact this
  refine ⟨⟨_, he, rfl⟩, h _ he (Heap.get?_push_of_some _ (Heap.get?_push_size _ B.free)) (by rw [Heap.size_push, hz]) fun b o x => Heap.get?_push_of_some _ (Heap.get?_push_of_some _ x)⟩
end PySem
namespace Wn
open PySem L2
/-! ### a list (true) or a tuple (false) -/
def SqA (K : PySem.W.Frag) : Bool → Hp → Addr → List V → Prop
  | true => SqL K
  | false => SqT K
def IsIt : Bool → Heap → Addr → Addr → Nat → Prop
  | true => fun h it a i => h.IsListIter it a i
  | false => fun h it a i => h.IsTupleIter it a i
def IsSrc : Bool → Heap → Addr → Array Value → Prop
  | true => fun h a its => h.IsList a its
  | false => fun h a its => h.IsTuple a its
def itObj : Bool → Addr → Obj
  | true => fun a => { cls := .type "list_iterator", data := .fields #[.ref a, .int 0 0] }
  | false => fun a => { cls := .type "tuple_iterator", data := .fields #[.ref a, .int 0 0] }
theorem drawsA {prog : Program} {w : World} {A : Around} (k : Bool) (hh : A.handled = none) (it a : Addr) (hne : a ≠ it) (items : Array Value) :
    Draws prog w A it [it, a] items.size (fun i v => items[i]? = some v) (fun i h => IsIt k h it a i ∧ IsSrc k h a items) := by
  cases k
  · exact Draws.tuple hh it a hne items
  · exact Draws.list hh it a hne items
theorem beginsA (k : Bool) (a : Addr) (items : Array Value) : Begins (.ref a) (itObj k a) (fun h => IsSrc k h a items) := by
  cases k
  · exact begins_tuple a items
  · exact begins_list a items
theorem isIt0 {k : Bool} {h : Heap} {it a : Addr} (e : h.get? it = some (itObj k a)) : IsIt k h it a 0 := by
  cases k <;> exact ⟨_, e, rfl, rfl⟩
theorem IsIt.at {k : Bool} {h h' : Heap} {it a : Addr} {i : Nat} (e : IsIt k h it a i) (q : ∀ o, h.get? it = some o → h'.get? it = some o) : IsIt k h' it a i := by
  cases k
  · exact Heap.IsTupleIter.at e q
  · exact Heap.IsListIter.at e q
theorem IsIt.obj {k : Bool} {h : Heap} {it a : Addr} {i : Nat} (e : IsIt k h it a i) : ∃ o, h.get? it = some o ∧ ∀ v, o.data ≠ .cell v := by
  cases k
  · obtain ⟨o, e1, _, d1⟩ := e; exact ⟨o, e1, fun v q => by rw [d1] at q; cases q⟩
  · obtain ⟨o, e1, _, d1⟩ := e; exact ⟨o, e1, fun v q => by rw [d1] at q; cases q⟩
section
variable {X : Cx} {pins : List (Addr × Obj)} {σ : St} {H : Hp} {s : Shared}
theorem srcA (I : Inv X pins σ H s) {k : Bool} {a : Addr} {xs : List V} (h : SqA X.K k H a xs) : ∃ its : List Value, Vals xs its ∧ IsSrc k s.heap a its.toArray := by
  cases k
  · obtain ⟨its, rv, p, _⟩ := I.tuple h; exact ⟨its, rv, p⟩
  · obtain ⟨its, rv, p, _⟩ := I.list h; exact ⟨its, rv, p.isList⟩
theorem sqA_inj (I : Inv X pins σ H s) {k : Bool} {a : Addr} {xs ys : List V} (h : SqA X.K k H a xs) (h' : SqA X.K k H a ys) : xs = ys := by
  cases k
  · exact I.tuple_inj h h'
  · exact I.list_inj h h'
theorem IsSrc.lt {k : Bool} {h : Heap} {a : Addr} {its : Array Value} (e : IsSrc k h a its) : a < h.objs.size := by
  cases k
  · obtain ⟨o, q, _⟩ := e; exact Heap.lt_size q
  · obtain ⟨o, q, _⟩ := e; exact Heap.lt_size q
end
/-! ### zip of two lists or tuples -/
def ItZ (K : PySem.W.Frag) (k1 k2 : Bool) (a b : Addr) : It :=
  ⟨fun i H => ∃ (xs ys : List V) (x y : V), SqA K k1 H a xs ∧ SqA K k2 H b ys ∧ xs[i]? = some x ∧ ys[i]? = some y,
    fun i H v H' => ∃ T x y, v = .ref T ∧ H T = none ∧ H' = upd H T (.tup [x, y]) ∧ (∀ xs, SqA K k1 H a xs → xs[i]? = some x) ∧ ∀ ys, SqA K k2 H b ys → ys[i]? = some y,
    fun i H => ∃ xs ys : List V, SqA K k1 H a xs ∧ SqA K k2 H b ys ∧ i ≤ xs.length ∧ i ≤ ys.length ∧ (i = xs.length ∨ i = ys.length)⟩
theorem turn_zipW {P : Program} {w : World} {K : PySem.W.Frag} {elts : List Expr} {kk : Nat} {tpos : Pos} {k1 k2 : Bool} {a b z TI TO i1 i2 : Addr} (D : ZipSep2 z TI TO i1 i2 [i1, a] [i2, b]) (na1 : a ≠ i1) (nb2 : b ≠ i2) :
    Turn P w K (.Tuple elts kk tpos) (ItZ K k1 k2 a b) [z, TI, TO, i1, i2] z (fun i h => IsZip h z TI TO .none ∧ IsTupOf2 h TI (.ref i1) (.ref i2) ∧ (∃ x y, IsTupOf2 h TO x y) ∧ IsIt k1 h i1 a i ∧ IsIt k2 h i2 b i) where
  mem := by simp
  obj := fun i h st c hc => by
    obtain ⟨hz, hTI, ⟨x, y, hTO⟩, h1, h2⟩ := st
    have e' : c = z ∨ c = TI ∨ c = TO ∨ c = i1 ∨ c = i2 := by simpa using hc
    rcases e' with q | q | q | q | q
    · rw [q]; exact ⟨_, hz, fun v q => nomatch q⟩
    · rw [q]; exact ⟨_, hTI, fun v q => nomatch q⟩
    · rw [q]; exact ⟨_, hTO, fun v q => nomatch q⟩
    · rw [q]; exact h1.obj
    · rw [q]; exact h2.obj
  keep := fun i h h' st k => by
    obtain ⟨hz, hTI, ⟨x, y, hTO⟩, h1, h2⟩ := st
    exact ⟨k z (by simp) _ hz, k TI (by simp) _ hTI, ⟨x, y, k TO (by simp) _ hTO⟩, h1.at fun o q => k i1 (by simp) o q, h2.at fun o q => k i2 (by simp) o q⟩
  item := by
    intro X hP hw hK hc i pins s σ H E I hf st hg
    subst hP hw hK
    obtain ⟨hz, hTI, ⟨x0, y0, hTO⟩, h1, h2⟩ := st
    obtain ⟨xs, ys, x, y, hqx, hqy, hx, hy⟩ := hg
    obtain ⟨its, rv, p⟩ := srcA I hqx
    obtain ⟨its2, rv2, p2⟩ := srcA I hqy
    obtain ⟨u, hu, ru⟩ := rv.get hx
    obtain ⟨u2, hu2, ru2⟩ := rv2.get hy
    have hh : X.A.in1.handled = none := I.ok.hd hc
    have hzl : z < s.heap.objs.size := Heap.lt_size hz
    refine wpAny_pyNext_zipD2_item D (drawsA k1 hh i1 a na1 its.toArray) (drawsA k2 hh i2 b nb2 its2.toArray) hz hTI hTO ⟨h1, p⟩ ⟨h2, p2⟩ (by
      have := (List.getElem?_eq_some_iff.mp hu).1
      simpa using this) (by
      have := (List.getElem?_eq_some_iff.mp hu2).1
      simpa using this) fun w1 w2 h' tk e1 e2 z' TO' s1 s2 hT hsz hk => ?_
    have e1' : w1 = u := by
      have q : its[i]? = some w1 := by simpa using e1
      rw [hu] at q; exact (Option.some.inj q).symm
    have e2' : w2 = u2 := by
      have q : its2[i]? = some w2 := by simpa using e2
      rw [hu2] at q; exact (Option.some.inj q).symm
    subst e1' e2'
    refine ⟨_, rfl, wpAny_letOwnedTupleGo_zip (s := { s with heap := h', toks := tk }) z' fun h'' z'' sb => ?_⟩
    have hT2 : h''.get? s.heap.objs.size = some { cls := .type "tuple", data := .seq #[w1, w2] } := (sb.2 _ (Nat.ne_of_gt hzl)).trans hT
    have new : ObjOk X.prog X.w (upd H s.heap.objs.size (.tup [x, y])) h'' s.heap.objs.size (.tup [x, y]) :=
      ⟨by show 2 ≤ sizeLine; decide, [w1, w2], .cons ru (.cons ru2 .nil), ⟨_, hT2, rfl, _, rfl⟩⟩
    have I1 : Inv X pins σ (upd H s.heap.objs.size (.tup [x, y])) { s with heap := h'', toks := tk } :=
      I.turnedNew (t' := tk) (ch := [z, TI, TO, i1, i2]) (fun c o hb q => (sb.2 c (fun q' => hb (by simp [q']))).trans (hk c o (fun q' => hb (by simp [q'])) (fun q' => hb (by simp [q'])) (fun q' => hb (by simp [q'])) (fun q' => hb (by simp [q'])) q)) hf (Nat.le_refl _) new
    refine ⟨.ref s.heap.objs.size, _, I1, rfl, ⟨_, x, y, rfl, I.hok.fresh (Nat.le_refl _), rfl, fun l hl => by rw [sqA_inj I hl hqx]; exact hx, fun l hl => by rw [sqA_inj I hl hqy]; exact hy⟩, ⟨z'', ?_, ⟨w1, w2, ?_⟩, ?_, ?_⟩, fun c hcm => ?_⟩
    · exact (sb.2 _ D.TIz).trans (hk _ _ D.TIz D.TITO D.TIi1 D.TIi2 hTI)
    · exact (sb.2 _ D.TOz).trans TO'
    · exact s1.1.at fun o q => (sb.2 _ (Ne.symm D.zi1)).trans q
    · exact s2.1.at fun o q => (sb.2 _ (Ne.symm D.zi2)).trans q
    · have hlt : c < s.heap.objs.size := by
        have e' : c = z ∨ c = TI ∨ c = TO ∨ c = i1 ∨ c = i2 := by simpa using hcm
        rcases e' with q | q | q | q | q
        · rw [q]; exact hzl
        · rw [q]; exact Heap.lt_size hTI
        · rw [q]; exact Heap.lt_size hTO
        · rw [q]; obtain ⟨_, e1, _⟩ := h1.obj; exact Heap.lt_size e1
        · rw [q]; obtain ⟨_, e2, _⟩ := h2.obj; exact Heap.lt_size e2
      rw [upd_ne (Nat.ne_of_lt hlt)]
      exact (hf c hcm).1
  done := by
    intro X hP hw hK hc i pins s σ H E I hf st hg
    subst hP hw hK
    obtain ⟨hz, hTI, ⟨x0, y0, hTO⟩, h1, h2⟩ := st
    obtain ⟨xs, ys, hqx, hqy, l1, l2, hend⟩ := hg
    obtain ⟨its, rv, p⟩ := srcA I hqx
    obtain ⟨its2, rv2, p2⟩ := srcA I hqy
    have n1 := rv.length
    have n2 := rv2.length
    have hh : X.A.in1.handled = none := I.ok.hd hc
    exact wpAny_pyNext_zipD2_end D (drawsA k1 hh i1 a na1 its.toArray) (drawsA k2 hh i2 b nb2 its2.toArray) hz hTI hTO ⟨h1, p⟩ ⟨h2, p2⟩ (by simp; omega) (by simp; omega) (by simp; omega) fun h' tk hk => ⟨rfl, I.turnedL (t' := tk) (ch := [z, TI, TO, i1, i2]) (fun c o hb q =>
      hk c o (fun q' => hb (by simp [q'])) (fun q' => hb (by simp [q'])) (fun q' => hb (by simp [q'])) (fun q' => hb (by simp [q'])) q) hf⟩
  self := fun A i s Q E st h => wpAny_pyIter_zip st.1 h

def iZipW (K : PySem.W.Frag) (ta : TA) : TI := fun σ H R => ta σ H fun vs H1 => ∃ k1 k2 a b xs ys, vs = [.ref a, .ref b] ∧ SqA K k1 H1 a xs ∧ SqA K k2 H1 b ys ∧ R (ItZ K k1 k2 a b) H1
theorem pi_zipW {X : Cx} {e e2 : Expr} {ta : TA} {p pos tpos : Pos} {elts : List Expr} {kk : Nat} (hg : Gl X "zip") (hm : X.mg "zip" = none) (ha : PA X [e, e2] ta)
    (hs : starEach [e, e2] X.env = (false, eval e X.env) :: starEach [e2] X.env := by rfl) (hpl : (backTo pos (starEach [e2] X.env)).any (·.1) = false := by rfl) :
    PI X (.Tuple elts kk tpos) (.Call (.Name "zip" p) [e, e2] [] pos) (iZipW X.K ta) := by
  refine ⟨fun pins s σ H R I h => ?_⟩
  refine PyProof.Rows.Call_ (ld_blt I hg hm PyProof.Rows.boot_zip (PyProof.Rows.callWith_type1 (thn (ha.run pos pins s σ H _ I h) fun us s1 ⟨vs, H1, I1, r1, q1⟩ => ?_) hs hpl))
  obtain ⟨k1, k2, a, b, xs, ys, ex, hqx, hqy, q⟩ := q1
  subst ex
  cases r1 with
  | cons r rr =>
    cases rr with
    | cons r' rr =>
      cases rr
      cases r
      cases r'
      have fresh5 : ∀ c, c ∈ [s1.heap.objs.size + 4, s1.heap.objs.size + 2, s1.heap.objs.size + 3, s1.heap.objs.size, s1.heap.objs.size + 1] → FpOk X pins H1 c := fun c hcm => by
        have e' : c = s1.heap.objs.size + 4 ∨ c = s1.heap.objs.size + 2 ∨ c = s1.heap.objs.size + 3 ∨ c = s1.heap.objs.size ∨ c = s1.heap.objs.size + 1 := by simpa using hcm
        have hle : s1.heap.objs.size ≤ c := by
          rcases e' with z | z | z | z | z
          · rw [z]; exact Nat.le_add_right _ _
          · rw [z]; exact Nat.le_add_right _ _
          · rw [z]; exact Nat.le_add_right _ _
          · rw [z]; exact Nat.le_refl _
          · rw [z]; exact Nat.le_add_right _ _
        exact I1.fpOk hle (I1.hok.fresh hle)
      obtain ⟨its, rv, p1⟩ := srcA I1 hqx
      obtain ⟨its2, rv2, p2⟩ := srcA I1 hqy
      refine zip_begins2 (beginsA k1 a its.toArray) (beginsA k2 b its2.toArray) p1 p2 fun h' hz hTI hTO h1 h2 hsz hk => wpAny_pyIter_zip hz ?_
      have I2 : Inv X pins σ H1 { s1 with heap := h' } := I1.kept (t' := s1.toks) hk
      have la := p1.lt
      have lb := p2.lt
      exact ⟨s1.heap.objs.size + 4, [s1.heap.objs.size + 4, s1.heap.objs.size + 2, s1.heap.objs.size + 3, s1.heap.objs.size, s1.heap.objs.size + 1], _, _, H1, rfl, I2,
        turn_zipW (zip_sep2 (fp1 := [a]) (fp2 := [b]) (by simpa using la) (by simpa using lb)) (Nat.ne_of_lt la) (Nat.ne_of_lt (Nat.lt_succ_of_lt lb)), ⟨hz, hTI, ⟨_, _, hTO⟩, isIt0 h1, isIt0 h2⟩, fresh5, q⟩
/-! ### enumerate of a list or tuple -/
def ItE (K : PySem.W.Frag) (k : Bool) (a : Addr) : It :=
  ⟨fun i H => ∃ (xs : List V) (x : V), SqA K k H a xs ∧ xs[i]? = some x, fun i H v H' => ∃ T x, v = .ref T ∧ H T = none ∧ H' = upd H T (.tup [.int (i : Nat), x]) ∧ ∀ xs, SqA K k H a xs → xs[i]? = some x, fun i H => ∃ xs : List V, SqA K k H a xs ∧ xs.length = i⟩
theorem turn_enumW {P : Program} {w : World} {K : PySem.W.Frag} {elts : List Expr} {kk : Nat} {tpos : Pos} (k : Bool) (a e it : Addr) (hne : e ≠ it) (hea : e ≠ a) (hai : a ≠ it) :
    Turn P w K (.Tuple elts kk tpos) (ItE K k a) [e, it] e (fun i h => (∃ old, IsEnum h e it ((i : Nat) : Int) old) ∧ IsIt k h it a i) where
  mem := by simp
  obj := fun i h st b hb => by
    obtain ⟨⟨old, he⟩, hi⟩ := st
    have e' : b = e ∨ b = it := by simpa using hb
    rcases e' with z | z
    · rw [z]; exact ⟨_, he, fun v q => nomatch q⟩
    · rw [z]; exact hi.obj
  keep := fun i h h' st k => let ⟨⟨old, he⟩, hi⟩ := st; ⟨⟨old, k e (by simp) _ he⟩, hi.at fun o q => k it (by simp) o q⟩
  item := by
    intro X hP hw hK hc i pins s σ H E I hf st hg
    subst hP hw hK
    obtain ⟨⟨old, he⟩, hit⟩ := st
    obtain ⟨xs, x, hq, hx⟩ := hg
    obtain ⟨its, rv, p⟩ := srcA I hq
    obtain ⟨u, hu, ru⟩ := rv.get hx
    have hh : X.A.in1.handled = none := I.ok.hd hc
    have hel : e < s.heap.objs.size := Heap.lt_size he
    have hil : it < s.heap.objs.size := by obtain ⟨_, q, _⟩ := hit.obj; exact Heap.lt_size q
    refine wpAny_pyNext_enum_itemC (drawsA k hh it a hai its.toArray) he ⟨hit, p⟩ (by
      have := (List.getElem?_eq_some_iff.mp hu).1
      simpa using this) hne (by simp [hne, hea]) fun w1 h' tk e1 ho hs' hT hsz hk => ?_
    have e1' : w1 = u := by
      have q : its[i]? = some w1 := by simpa using e1
      rw [hu] at q; exact (Option.some.inj q).symm
    subst e1'
    refine ⟨_, rfl, wpAny_letOwnedTupleGo_enum (s := { s with heap := h', toks := tk + 1 }) ho fun h'' he' sb => ?_⟩
    have hT2 : h''.get? s.heap.objs.size = some { cls := .type "tuple", data := .seq #[.int i tk, w1] } := (sb.2 _ (Nat.ne_of_gt hel)).trans hT
    have new : ObjOk X.prog X.w (upd H s.heap.objs.size (.tup [.int (i : Nat), x])) h'' s.heap.objs.size (.tup [.int (i : Nat), x]) :=
      ⟨by show 2 ≤ sizeLine; decide, [.int i tk, w1], .cons ⟨_, rfl⟩ (.cons ru .nil), ⟨_, hT2, rfl, _, rfl⟩⟩
    have I1 : Inv X pins σ (upd H s.heap.objs.size (.tup [.int (i : Nat), x])) { s with heap := h'', toks := tk + 1 } :=
      I.turnedNew (ch := [e, it]) (fun b ob hb q => (sb.2 b (fun z => hb (by simp [z]))).trans (hk b ob (fun z => hb (by simp [z])) (fun z => hb (by simp [z])) q)) hf (Nat.le_refl _) new
    refine ⟨.ref s.heap.objs.size, _, I1, rfl, ⟨_, x, rfl, I.hok.fresh (Nat.le_refl _), rfl, fun ys hy => by rw [sqA_inj I hy hq]; exact hx⟩, ⟨⟨w1, ?_⟩, hs'.1.at fun o q => (sb.2 it (Ne.symm hne)).trans q⟩, fun b hb => ?_⟩
    · have e1 : ((i + 1 : Nat) : Int) = (i : Int) + 1 := by omega
      rw [e1]; exact he'
    · have hb' : b < s.heap.objs.size := by
        have e' : b = e ∨ b = it := by simpa using hb
        rcases e' with z | z
        · rw [z]; exact hel
        · rw [z]; exact hil
      rw [upd_ne (Nat.ne_of_lt hb')]
      exact (hf b hb).1
  done := by
    intro X hP hw hK hc i pins s σ H E I hf st hg
    subst hP hw hK
    obtain ⟨⟨old, he⟩, hit⟩ := st
    obtain ⟨xs, hq, hx⟩ := hg
    obtain ⟨its, rv, p⟩ := srcA I hq
    have hl := rv.length
    have hh : X.A.in1.handled = none := I.ok.hd hc
    have e1 : its.toArray.size = i := by simp; omega
    exact wpAny_pyNext_enum_endD (drawsA k hh it a hai its.toArray) he (by rw [e1]; exact ⟨hit, p⟩) fun h' eb => ⟨rfl, I.turnedL (t' := s.toks) (ch := [e, it]) (fun b o hb q => eb b o (fun z => hb (by simp [z])) q) hf⟩
  self := fun A i s Q E st h => let ⟨⟨_, he⟩, _⟩ := st; wpAny_pyIter_enum he h
def iEnumW (K : PySem.W.Frag) (ta : TA) : TI := fun σ H R => ta σ H fun vs H1 => ∃ k a xs, vs = [.ref a] ∧ SqA K k H1 a xs ∧ R (ItE K k a) H1
theorem pi_enumW {X : Cx} {e : Expr} {ta : TA} {p pos tpos : Pos} {elts : List Expr} {kk : Nat} (hg : Gl X "enumerate") (hm : X.mg "enumerate" = none) (ha : PA X [e] ta) (hs : starEach [e] X.env = [(false, eval e X.env)] := by rfl) :
    PI X (.Tuple elts kk tpos) (.Call (.Name "enumerate" p) [e] [] pos) (iEnumW X.K ta) := by
  refine ⟨fun pins s σ H R I h => ?_⟩
  refine PyProof.Rows.Call_ (ld_blt I hg hm PyProof.Rows.boot_enumerate (PyProof.Rows.callWith_type1 (thn (ha.run pos pins s σ H _ I h) fun us s1 ⟨vs, H1, I1, r1, q1⟩ => ?_) hs rfl))
  obtain ⟨k, a, xs, ex, hq, q⟩ := q1
  subst ex
  cases r1 with
  | cons r rr =>
    cases rr
    cases r
    obtain ⟨its, rv, p'⟩ := srcA I1 hq
    refine enum_beginsW (beginsA k a its.toArray) p' fun h' he h1 hsz hk => wpAny_pyIter_enum he ?_
    have I2 : Inv X pins σ H1 { s1 with heap := h' } := I1.kept (t' := s1.toks) hk
    have la := p'.lt
    refine ⟨s1.heap.objs.size + 1, [s1.heap.objs.size + 1, s1.heap.objs.size], _, _, H1, rfl, I2, turn_enumW k a (s1.heap.objs.size + 1) s1.heap.objs.size (Nat.succ_ne_self _) (Nat.ne_of_gt (Nat.lt_succ_of_lt la)) (Nat.ne_of_lt la), ⟨⟨.none, he⟩, isIt0 h1⟩, fun b hb => ?_, q⟩
    have e' : b = s1.heap.objs.size + 1 ∨ b = s1.heap.objs.size := by simpa using hb
    have hle : s1.heap.objs.size ≤ b := by
      rcases e' with z | z
      · rw [z]; exact Nat.le_add_right _ _
      · rw [z]; exact Nat.le_refl _
    exact I1.fpOk hle (I1.hok.fresh hle)
end Wn
set_option Elab.async false
set_option linter.all false
set_option maxRecDepth 100000
set_option maxHeartbeats 2000000
set_option autoImplicit false
namespace Wn
open PySem L2

structure Ed where
  nx : Ro → Mm → Prop
  rt : QV
  bk : Ro → Mm → Prop := fun _ _ => False
  ct : Ro → Mm → Prop := fun _ _ => False
section
variable {ι : Type}
def Wx (K : PySem.W.Frag) (π : List Addr) (G H : Hp) (Q : Ro → Mm → Prop) (R : St → Hp → Prop) : Prop := ∀ σ' ρ' π' G' H' m', Xt π G H π' G' H' → Hk K π' G' H' m' → Sk K π' G' σ' ρ' → Q ρ' m' → R σ' H'
structure Wd (K : PySem.W.Frag) (π : List Addr) (G H : Hp) (D : Ed) (D' : Ends) : Prop where
  nx : Wx K π G H D.nx D'.nx
  rt : Wv K π G H D.rt D'.rt
  bk : Wx K π G H D.bk D'.bk
  ct : Wx K π G H D.ct D'.ct
def TsOf (X : ι → Cx) (st : Stmt) : TS := fun D σ H => ∃ t, (∀ j, PS (X j) st t) ∧ t D σ H
def TssOf (X : ι → Cx) (st : List Stmt) : TS := fun D σ H => ∃ t, (∀ j, PSs (X j) st t) ∧ t D σ H
def TgOf (X : ι → Cx) (tg : Expr) : TG := fun v σ H Q => ∃ t, (∀ j, PG (X j) tg t) ∧ t v σ H Q
def TgsOf (X : ι → Cx) (tg : List Expr) : TGs := fun v σ H Q => ∃ t, (∀ j, PGs (X j) tg t) ∧ t v σ H Q
def TiOf (X : ι → Cx) (tg it : Expr) : TI := fun σ H R => ∃ t, (∀ j, PI (X j) tg it t) ∧ t σ H R
def TtsOf (X : ι → Cx) (es : List Expr) : TT := fun σ H Q => ∃ t, (∀ j, PTs (X j) es t) ∧ t σ H Q
def SetOf (X : ι → Cx) : TSet := fun o i v H Q => ∃ t, (∀ j, PSet (X j) t) ∧ t o i v H Q
theorem tsOf (X : ι → Cx) (e : Stmt) (j : ι) : PS (X j) e (TsOf X e) := ⟨fun pins s σ H Q I ⟨t, p, h⟩ => (p j).run pins s σ H Q I h⟩
theorem tssOf (X : ι → Cx) (e : List Stmt) (j : ι) : PSs (X j) e (TssOf X e) := ⟨fun pins s σ H Q I ⟨t, p, h⟩ => (p j).run pins s σ H Q I h⟩
theorem tgOf (X : ι → Cx) (e : Expr) (j : ι) : PG (X j) e (TgOf X e) := ⟨fun pins s σ H v u Q I r ⟨t, p, h⟩ => (p j).run pins s σ H v u Q I r h⟩
theorem tgsOf (X : ι → Cx) (e : List Expr) (j : ι) : PGs (X j) e (TgsOf X e) := ⟨fun pins s σ H v u Q I r ⟨t, p, h⟩ => (p j).run pins s σ H v u Q I r h⟩
theorem tiOf (X : ι → Cx) (tg it : Expr) (j : ι) : PI (X j) tg it (TiOf X tg it) := ⟨fun pins s σ H R I ⟨t, p, h⟩ => (p j).run pins s σ H R I h⟩
theorem ttsOf (X : ι → Cx) (es : List Expr) (j : ι) : PTs (X j) es (TtsOf X es) := ⟨fun pins s σ H Q I ⟨t, p, h⟩ => (p j).run pins s σ H Q I h⟩
theorem setOf (X : ι → Cx) (j : ι) : PSet (X j) (SetOf X) := fun pins s σ H o i v ov iv u Q I r1 r2 r3 ⟨t, p, h⟩ => p j pins s σ H o i v ov iv u Q I r1 r2 r3 h

def Ws1 (X : ι → Cx) (K : PySem.W.Frag) (st : Stmt) (ρ : Ro) (m : Mm) (D : Ed) : Prop := ∀ π G σ H D', Hk K π G H m → Sk K π G σ ρ → Wd K π G H D D' → TsOf X st D' σ H
def Ws (X : ι → Cx) (K : PySem.W.Frag) (st : List Stmt) (ρ : Ro) (m : Mm) (D : Ed) : Prop := ∀ π G σ H D', Hk K π G H m → Sk K π G σ ρ → Wd K π G H D D' → TssOf X st D' σ H
def Wg (X : ι → Cx) (K : PySem.W.Frag) (vs : Nat → Prop) (tg : Expr) (x : MV) (ρ : Ro) (m : Mm) (Q : Ro → Mm → Prop) : Prop := ∀ π G σ H R v, Hk K π G H m → Sk K π G σ ρ → Rv K G π v x →
  (∀ σ' ρ' π' G' H' m', Xt π G H π' G' H' → Hk K π' G' H' m' → Sk K π' G' σ' ρ' → σ'.length = σ.length → (∀ k, ¬ vs k → σ'[k]? = σ[k]?) → Q ρ' m' → R σ' H') → TgOf X tg v σ H R
def Wgs (X : ι → Cx) (K : PySem.W.Frag) (vs : Nat → Prop) (tg : List Expr) (xs : List MV) (ρ : Ro) (m : Mm) (Q : Ro → Mm → Prop) : Prop := ∀ π G σ H R us, Hk K π G H m → Sk K π G σ ρ → Rvs K G π us xs →
  (∀ σ' ρ' π' G' H' m', Xt π G H π' G' H' → Hk K π' G' H' m' → Sk K π' G' σ' ρ' → σ'.length = σ.length → (∀ k, ¬ vs k → σ'[k]? = σ[k]?) → Q ρ' m' → R σ' H') → TgsOf X tg us σ H R
def SetW (X : ι → Cx) (K : PySem.W.Frag) (o i x : MV) (m : Mm) (Q : Mm → Prop) : Prop := ∀ π G H R ov iv v, Hk K π G H m → Rv K G π ov o → Rv K G π iv i → Rv K G π v x → (∀ π' G' H' m', Xt π G H π' G' H' → Hk K π' G' H' m' → Q m' → R H') → SetOf X ov iv v H R
/-- an iterator of the items xs, while gd holds of the store -/
def ItOk (K : PySem.W.Frag) (π : List Addr) (G H : Hp) (J : It) (xs : List MV) (gd : Mm → Prop) : Prop := ∀ π' G' H' m', Xt π G H π' G' H' → Hk K π' G' H' m' → gd m' → (∀ i, i < xs.length → J.go i H') ∧ J.stop xs.length H' ∧
  ∀ i v H'', i < xs.length → J.yld i H' v H'' → ∃ x G'', xs[i]? = some x ∧ Xt π' G' H' π' G'' H'' ∧ Hk K π' G'' H'' m' ∧ Rv K G'' π' v x
def Wi (X : ι → Cx) (K : PySem.W.Frag) (tg it : Expr) (ρ : Ro) (m : Mm) (Q : List MV → (Mm → Prop) → Mm → Prop) : Prop := ∀ π G σ H R, Hk K π G H m → Sk K π G σ ρ →
  (∀ J xs gd π' G' H' m', Xt π G H π' G' H' → Hk K π' G' H' m' → ItOk K π' G' H' J xs gd → Q xs gd m' → R J H') → TiOf X tg it σ H R
def Wts (X : ι → Cx) (K : PySem.W.Frag) (es : List Expr) (ρ : Ro) (m : Mm) (Q : Bool → Mm → Prop) : Prop := ∀ π G σ H R, Hk K π G H m → Sk K π G σ ρ → Wb K π G H Q R → TtsOf X es σ H R
end

section
variable {ι : Type} {X : ι → Cx} {P : Program} {w : World} {K : PySem.W.Frag} {mg : Str → Option Value} {base : Heap} {N : List Str} {sc : Scope} {fv : Str → Bool} {k : Nat} {ρ : Ro} {m : Mm} {Q Q' : QV} {D : Ed} {a b c e tg : Expr} {pos p : Pos} {x y z : MV} {st : Stmt} {rest : List Stmt}
variable {π π1 : List Addr} {G H G1 H1 : Hp}
theorem Wx.xt {Q : Ro → Mm → Prop} {R : St → Hp → Prop} (h : Wx K π G H Q R) (e : Xt π G H π1 G1 H1) : Wx K π1 G1 H1 Q R := fun σ' ρ' π' G' H' m' e' => h σ' ρ' π' G' H' m' (e.trans e')
theorem Wd.xt {D' : Ends} (h : Wd K π G H D D') (e : Xt π G H π1 G1 H1) : Wd K π1 G1 H1 D D' := ⟨h.nx.xt e, h.rt.xt e, h.bk.xt e, h.ct.xt e⟩
theorem Ws.mono {ss : List Stmt} {D D1 : Ed} (h : Ws X K ss ρ m D) (h1 : ∀ ρ m, D.nx ρ m → D1.nx ρ m) (h2 : ∀ x m, D.rt x m → D1.rt x m) (h3 : ∀ ρ m, D.bk ρ m → D1.bk ρ m) (h4 : ∀ ρ m, D.ct ρ m → D1.ct ρ m) : Ws X K ss ρ m D1 := fun π G σ H D' hk sk wd =>
  h π G σ H D' hk sk ⟨fun σ' ρ' π' G' H' m' e a b c => wd.nx σ' ρ' π' G' H' m' e a b (h1 _ _ c), fun σ' ρ' π' G' H' m' e a b c => wd.rt σ' ρ' π' G' H' m' e a b (h2 _ _ c), fun σ' ρ' π' G' H' m' e a b c => wd.bk σ' ρ' π' G' H' m' e a b (h3 _ _ c), fun σ' ρ' π' G' H' m' e a b c => wd.ct σ' ρ' π' G' H' m' e a b (h4 _ _ c)⟩
theorem ws_nil (q : D.nx ρ m) : Ws X K [] ρ m D := fun π G σ H D' hk sk wd => ⟨_, fun _ => pss_nil, wd.nx σ ρ π G H m Xt.refl hk sk q⟩
theorem ws_cons (h : Ws1 X K st ρ m { D with nx := fun ρ' m' => Ws X K rest ρ' m' D }) : Ws X K (st :: rest) ρ m D := fun π G σ H D' hk sk wd =>
  ⟨_, fun j => pss_cons (tsOf X st j) (tssOf X rest j), h π G σ H _ hk sk ⟨fun σ' ρ' π' G' H' m' e hk' sk' q => q π' G' σ' H' D' hk' sk' (wd.xt e), wd.rt, wd.bk, wd.ct⟩⟩
theorem ws_pass (q : D.nx ρ m) : Ws1 X K (.Pass pos) ρ m D := fun π G σ H D' hk sk wd => ⟨_, fun _ => ps_pass, wd.nx σ ρ π G H m Xt.refl hk sk q⟩
theorem ws_break (q : D.bk ρ m) : Ws1 X K (.Break pos) ρ m D := fun π G σ H D' hk sk wd => ⟨_, fun _ => ps_break, wd.bk σ ρ π G H m Xt.refl hk sk q⟩
theorem ws_cont (q : D.ct ρ m) : Ws1 X K (.Continue pos) ρ m D := fun π G σ H D' hk sk wd => ⟨_, fun _ => ps_continue, wd.ct σ ρ π G H m Xt.refl hk sk q⟩
theorem ws_expr (h : We X K e ρ m fun _ m' => D.nx ρ m') (hs : ∀ env : Env, swapsWith e none pos.line env = pure false := by intro _; rfl) : Ws1 X K (.Expr e pos) ρ m D := fun π G σ H D' hk sk wd =>
  ⟨_, fun j => ps_expr (teOf X e j) (hs _), h π G σ H _ hk sk fun v x π' G' H' m' e' hk' _ q => wd.nx σ ρ π' G' H' m' e' hk' (sk.xt e') q⟩
theorem ws_ret (h : We X K e ρ m D.rt) : Ws1 X K (.Return (some e) pos) ρ m D := fun π G σ H D' hk sk wd => ⟨_, fun j => ps_ret (teOf X e j), h π G σ H _ hk sk wd.rt⟩
theorem ws_retN (q : D.rt (.d .none) m) : Ws1 X K (.Return none pos) ρ m D := fun π G σ H D' hk sk wd => ⟨_, fun j => ps_retN, wd.rt _ (.d .none) π G H m Xt.refl hk Da.non q⟩
theorem ws_if {ss us : List Stmt} (h : Wt X K c ρ m fun k m' => if k = true then Ws X K ss ρ m' D else Ws X K us ρ m' D) : Ws1 X K (.If c ss us pos) ρ m D := fun π G σ H D' hk sk wd =>
  ⟨_, fun j => ps_if (ttOf X c j) (tssOf X ss j) (tssOf X us j), h π G σ H _ hk sk fun k π' G' H' m' e' hk' q => by
    cases k with
    | true => rw [if_pos rfl] at q ⊢; exact q π' G' σ H' D' hk' (sk.xt e') (wd.xt e')
    | false => rw [if_neg Bool.false_ne_true] at q ⊢; exact q π' G' σ H' D' hk' (sk.xt e') (wd.xt e')⟩
/-! targets -/
theorem Sk.set {σ : St} (h : Sk K π G σ ρ) {v : V} (r : Rv K G π v x) (i : Nat) : Sk K π G (σ.set i (some v)) (ρ.set i (some x)) := by
  refine ⟨by simp [h.len], fun j y q => ?_⟩
  by_cases e : i = j
  · subst e
    have hi : i < ρ.length := by
      by_cases z : i < ρ.length
      · exact z
      · rw [List.getElem?_eq_none (by simp; omega)] at q; cases q
    rw [List.getElem?_set_self hi] at q
    cases q
    exact ⟨v, List.getElem?_set_self (by rw [h.len]; exact hi), r⟩
  · rw [List.getElem?_set_ne e] at q ⊢
    exact h.get j y q
theorem wg_name (F : Fam X P w K mg base N sc fv k) (i : Nat) {vs : Nat → Prop} {nm : Str} {Q : Ro → Mm → Prop} (q : Q (ρ.set i (some x)) m) (hv : vs i := by first | trivial | decide) (hN : N[i]? = some nm := by rfl) (hl : Loc sc nm := by first | exact Or.inl rfl | exact Or.inr rfl)
    (hf : fv nm = true ∨ sc.names.lookup nm = some .local := by first | exact Or.inl rfl | exact Or.inr rfl) : Wg X K vs (.Name nm pos) x ρ m Q := fun π G σ H R v hk sk rv wx =>
  ⟨_, fun j => pg_name (i := i) (by rw [F.cN]; exact F.nd) (by rw [F.cN]; exact hN) (by rw [F.cS]; exact hl) (by rw [F.cF, F.cS]; exact hf),
    wx _ _ π G H m Xt.refl hk (sk.set rv i) (by simp) (fun k hk => List.getElem?_set_ne (fun z => hk (by rw [← z]; exact hv))) q⟩
theorem wgs_nil {vs : Nat → Prop} {Q : Ro → Mm → Prop} (q : Q ρ m) : Wgs X K vs [] [] ρ m Q := fun π G σ H R us hk sk rv wx => by
  cases rv
  exact ⟨_, fun j => pgs_nil, rfl, wx σ ρ π G H m Xt.refl hk sk rfl (fun _ _ => rfl) q⟩
theorem wgs_cons {vs : Nat → Prop} {es : List Expr} {xs : List MV} {Q : Ro → Mm → Prop} (h : Wg X K vs e x ρ m fun ρ' m' => Wgs X K vs es xs ρ' m' Q) (hs : ∀ env : Env, (assignEach (e :: es) env).map (·.2) = assign e env :: (assignEach es env).map (·.2) := by intro _; rfl) : Wgs X K vs (e :: es) (x :: xs) ρ m Q := fun π G σ H R us hk sk rv wx => by
  cases rv with
  | cons r rs =>
    refine ⟨_, fun j => pgs_cons (tgOf X e j) (tgsOf X es j) (hs _), _, _, rfl, h π G σ H _ _ hk sk r fun σ1 ρ1 π1 G1 H1 m1 e1 hk1 sk1 l1 f1 q1 => ?_⟩
    exact q1 π1 G1 σ1 H1 R _ hk1 sk1 (Rvs.xt rs e1) fun σ2 ρ2 π2 G2 H2 m2 e2 hk2 sk2 l2 f2 q2 => wx σ2 ρ2 π2 G2 H2 m2 (e1.trans e2) hk2 sk2 (l2.trans l1) (fun k hk => (f2 k hk).trans (f1 k hk)) q2
theorem wg_tup (F : Fam X P w K mg base N sc fv k) {vs : Nat → Prop} {es : List Expr} {n : Nat} {ds : List PyData} {Q : Ro → Mm → Prop} (h : Wgs X K vs es (ds.map .d) ρ m Q) (hn : ∀ env : Env, (assignEach es env).length = ds.length := by intro _; rfl) (hst : ∀ env : Env, (assignEach es env).findIdx? (·.1) = none := by intro _; rfl) :
    Wg X K vs (.Tuple es n pos) (.d (.tuple ds)) ρ m Q := fun π G σ H R v hk sk rv wx => by
  obtain ⟨t, xs, rfl, ht, dt⟩ := Da.tupI rv
  refine ⟨gTup K ds.length (TgsOf X es), fun j => F.cK j ▸ pg_tup (F.calm j) (tgsOf X es j) (hn _) (hst _), t, xs, rfl, Same.tupq hk.sub ht, dt.len, ?_⟩
  exact h π G σ H R xs hk sk (data_rvs dt) wx
theorem wg_sub {vs : Nat → Prop} {o i : Expr} {Q : Ro → Mm → Prop} (h : We X K o ρ m fun y m1 => We X K i ρ m1 fun z m2 => SetW X K y z x m2 fun m3 => Q ρ m3)
    (ha : ∀ (env : Env) (v : Value), assign (.Subscript o i pos) env v = (do
      let ov ← holding [v] (eval o env)
      let iv ← holding [v, ov] (eval i env)
      standAt pos
      holding [v, ov, iv] (setItem ov iv v)
      release [v, ov, iv] []) := by intro _ _; rfl) : Wg X K vs (.Subscript o i pos) x ρ m Q := fun π G σ H R v hk sk rv wx =>
  ⟨_, fun j => pg_sub (teOf X o j) (teOf X i j) (setOf X j) (ha _), h π G σ H _ hk sk fun ov y π1 G1 H1 m1 e1 hk1 ro q1 => q1 π1 G1 σ H1 _ hk1 (sk.xt e1) fun iv z π2 G2 H2 m2 e2 hk2 ri q2 =>
    q2 π2 G2 H2 _ ov iv v hk2 (ro.xt e2) ri (rv.xt (e1.trans e2)) fun π3 G3 H3 m3 e3 hk3 q3 => wx σ ρ π3 G3 H3 m3 ((e1.trans e2).trans e3) hk3 (sk.xt ((e1.trans e2).trans e3)) rfl (fun _ _ => rfl) q3⟩
theorem paired_set {α β : Type} {F : α → β → Prop} {a : α} {b : β} (r : F a b) : ∀ {as : List α} {bs : List β} {k : Nat}, Paired F as bs → Paired F (as.set k a) (bs.set k b)
  | _, _, _, .nil => .nil
  | _, _, 0, .cons _ t => .cons r t
  | _, _, k + 1, .cons q t => .cons q (paired_set r t)
theorem setw_list {i : Nat} {n : Int} {k : Nat} {xs : List MV} {Q : Mm → Prop} (hi : m[i]? = some (.lst xs)) (hn : ixN xs.length n = some k) (q : Q (m.set i (.lst (xs.set k x)))) : SetW X K (.r i) (.d (.int n)) x m Q := fun π G H R ov iv v hk ro ri rv wx => by
  obtain ⟨a, ha, rfl⟩ := ro
  obtain rfl := Da.intI ri
  obtain ⟨a', u, h1, h2, vs, eu, rs⟩ := hk.obj i _ hi
  rw [ha] at h1; cases h1
  subst eu
  refine ⟨_, fun _ => set_list, a, vs, n, k, rfl, rfl, h2, by rw [Paired.length rs]; exact hn, wx π G _ _ (Xt.write (List.mem_of_getElem? ha)) (hk.write ha (show Rob K G π (.lst (vs.set k v)) (.lst (xs.set k x)) from ⟨_, rfl, paired_set rv rs⟩)) q⟩
theorem ws_asg (h : We X K e ρ m fun x m1 => Wg X K (fun _ => True) tg x ρ m1 D.nx) (hs : ∀ env : Env, swapsWithSole [tg] e pos.line env = pure false := by intro _; rfl) (hw : ∀ env : Env, swappedStores [tg] e env = pure none := by intro _; rfl)
    (h1 : ∀ env : Env, (assignEach [tg] env).map (·.2) = [assign tg env] := by intro _; rfl) : Ws1 X K (.Assign [tg] e pos) ρ m D := fun π G σ H D' hk sk wd =>
  ⟨_, fun j => ps_asg (teOf X e j) (tgOf X tg j) (hs _) (hw _) (h1 _), h π G σ H _ hk sk fun v x π1 G1 H1 m1 e1 hk1 rv q1 => q1 π1 G1 σ H1 _ v hk1 (sk.xt e1) rv fun σ2 ρ2 π2 G2 H2 m2 e2 hk2 sk2 _ _ q2 => wd.nx σ2 ρ2 π2 G2 H2 m2 (e1.trans e2) hk2 sk2 q2⟩
theorem ws_set (F : Fam X P w K mg base N sc fv k) (i : Nat) {nm : Str} {p' : Pos} (h : We X K e ρ m fun x m1 => D.nx (ρ.set i (some x)) m1) (hs : ∀ env : Env, swapsWith e (some (.Name nm p')) pos.line env = pure false := by intro _; rfl) (hN : N[i]? = some nm := by rfl) (hl : Loc sc nm := by first | exact Or.inl rfl | exact Or.inr rfl)
    (hf : fv nm = true ∨ sc.names.lookup nm = some .local := by first | exact Or.inl rfl | exact Or.inr rfl) : Ws1 X K (.Assign [.Name nm p'] e pos) ρ m D := fun π G σ H D' hk sk wd =>
  ⟨_, fun j => ps_set (i := i) (by rw [F.cN]; exact F.nd) (by rw [F.cN]; exact hN) (by rw [F.cS]; exact hl) (teOf X e j) (hs _) (by rw [F.cF, F.cS]; exact hf),
    h π G σ H _ hk sk fun v x π1 G1 H1 m1 e1 hk1 rv q1 => wd.nx _ _ π1 G1 H1 m1 e1 hk1 ((sk.xt e1).set rv i) q1⟩
/-! self.f = e -/
def putM (f : Str) (v : MV) : List (Str × MV) → List (Str × MV)
  | [] => [(f, v)]
  | (g, x) :: r => if g = f then (g, v) :: r else (g, x) :: putM f v r
theorem putF_putM {f : Str} {v : V} (r : Rv K G π v x) : ∀ {fs : List (Str × V)} {gs : List (Str × MV)}, Paired (Rf K G π) fs gs → Paired (Rf K G π) (putF f v fs) (putM f x gs)
  | _, _, .nil => .cons ⟨rfl, r⟩ .nil
  | _, _, .cons (a := p) (b := q) h t => by
    obtain ⟨p1, p2⟩ := p
    obtain ⟨q1, q2⟩ := q
    obtain ⟨e, rv⟩ := h
    have e' : p1 = q1 := e
    subst e'
    unfold putF putM
    by_cases z : p1 = f
    · rw [if_pos z, if_pos z]; exact .cons ⟨rfl, r⟩ t
    · rw [if_neg z, if_neg z]; exact .cons ⟨rfl, rv⟩ (putF_putM r t)
theorem ws_fld (F : Fam X P w K mg base N sc fv k) {f : Str} {o : Expr} {p' : Pos} (h : We X K e ρ m fun y m1 => We X K o ρ m1 fun z m2 => ∃ i C fs, z = .r i ∧ m2[i]? = some (.ins C fs) ∧ Cls K C ∧ NoAttr K C f ∧ fs.length < 1000 ∧ D.nx ρ (m2.set i (.ins C (putM f y fs))))
    (hs : ∀ env : Env, swapsWith e (some (.Attribute o f p')) pos.line env = pure false := by intro _; rfl) : Ws1 X K (.Assign [.Attribute o f p'] e pos) ρ m D := fun π G σ H D' hk sk wd =>
  ⟨sFld K (TeOf X o) (TeOf X e) f, fun j => F.cK j ▸ ps_fld (teOf X o j) (teOf X e j) (hs _), h π G σ H _ hk sk fun v y π1 G1 H1 m1 e1 hk1 rv q1 => q1 π1 G1 σ H1 _ hk1 (sk.xt e1) fun u z π2 G2 H2 m2 e2 hk2 ru ⟨i, C, fs, ez, hi, cl, na, hl, q2⟩ => by
    subst ez
    obtain ⟨c, hc, rfl⟩ := ru
    obtain ⟨a', u', h1, h2, dx, fs', eu, rf⟩ := hk2.obj i _ hi
    rw [hc] at h1; cases h1
    subst eu
    refine ⟨c, C, dx, fs', rfl, h2, cl, na, by rw [Paired.length rf]; exact hl, ?_⟩
    have e3 : Xt π2 G2 H2 π2 G2 (upd H2 c (.ins C dx (putF f v fs'))) := Xt.write (List.mem_of_getElem? hc)
    have e13 := (e1.trans e2).trans e3
    exact wd.nx σ ρ π2 G2 _ _ e13 (hk2.write hc (show Rob K G2 π2 (.ins C dx (putF f v fs')) (.ins C (putM f y fs)) from ⟨dx, _, rfl, putF_putM (rv.xt e2) rf⟩)) (sk.xt e13) q2⟩
end
end Wn
set_option Elab.async false
set_option linter.all false
set_option maxRecDepth 100000
set_option maxHeartbeats 2000000
set_option autoImplicit false
namespace Wn
open PySem L2
section
variable {ι : Type} {X : ι → Cx} {P : Program} {w : World} {K : PySem.W.Frag} {mg : Str → Option Value} {base : Heap} {N : List Str} {sc : Scope} {fv : Str → Bool} {k : Nat} {ρ : Ro} {m : Mm} {Q Q' : QV} {D : Ed} {a b c e tg it elt : Expr} {pos p : Pos} {x y z : MV} {st : Stmt} {rest body : List Stmt}
variable {π π1 : List Addr} {G H G1 H1 : Hp}
/-! ### for -/
theorem ws_for (F : Fam X P w K mg base N sc fv k)
    (h : Wi X K tg it ρ m fun xs gd m1 => ∃ I : Nat → Ro → Mm → Prop, I 0 ρ m1 ∧ (∀ i ρ' m', i ≤ xs.length → I i ρ' m' → gd m') ∧
      (∀ i x ρ' m', xs[i]? = some x → I i ρ' m' → Wg X K (fun _ => True) tg x ρ' m' fun ρ2 m2 => Ws X K body ρ2 m2 { D with nx := I (i + 1), ct := I (i + 1), bk := D.nx }) ∧ ∀ ρ' m', I xs.length ρ' m' → D.nx ρ' m')
    (hs : ∀ (env : Env) x, foldedSetIterable it env x = pure x := by intro _ _; rfl) : Ws1 X K (.For tg it body [] pos) ρ m D := fun π G σ H D' hk sk wd => by
  refine ⟨_, fun j => ps_for (F.px j) (F.calm j) (tiOf X tg it j) (tgOf X tg j) (tssOf X body j) (hs _), h π G σ H _ hk sk fun J xs gd π1 G1 H1 m1 e1 hk1 ok ⟨I, h0, hg, hb, hd⟩ => ?_⟩
  have wd1 := wd.xt e1
  refine ⟨fun i mm σ' H' => mm = xs.length - i ∧ i ≤ xs.length ∧ ∃ π' G' m' ρ', Xt π1 G1 H1 π' G' H' ∧ Hk K π' G' H' m' ∧ Sk K π' G' σ' ρ' ∧ I i ρ' m', ⟨_, rfl, Nat.zero_le _, π1, G1, m1, ρ, Xt.refl, hk1, sk.xt e1, h0⟩, ?_⟩
  rintro i mm σ2 H2 ⟨rfl, hi, π2, G2, m2, ρ2, e2, hk2, sk2, hI⟩
  obtain ⟨go, stop, yl⟩ := ok π2 G2 H2 m2 e2 hk2 (hg i ρ2 m2 hi hI)
  by_cases hlt : i < xs.length
  · refine .inr ⟨go i hlt, fun σ' H' => ∃ π' G' m' ρ', Xt π1 G1 H1 π' G' H' ∧ Hk K π' G' H' m' ∧ Sk K π' G' σ' ρ' ∧ I (i + 1) ρ' m', fun σ' H' q => ⟨xs.length - (i + 1), by omega, rfl, hlt, q⟩, fun v H3 y => ?_⟩
    obtain ⟨x, G3, hx, e3, hk3, rx⟩ := yl i v H3 hlt y
    refine hb i x ρ2 m2 hx hI π2 G3 σ2 H3 _ v hk3 (sk2.xt e3) rx fun σ4 ρ4 π4 G4 H4 m4 e4 hk4 sk4 _ _ q4 => ?_
    have e24 := (e2.trans e3).trans e4
    exact q4 π4 G4 σ4 H4 _ hk4 sk4 ⟨fun σ' ρ' π' G' H' m' e' hk' sk' q => ⟨π', G', m', ρ', e24.trans e', hk', sk', q⟩, (wd1.xt e24).rt, (wd1.xt e24).nx, fun σ' ρ' π' G' H' m' e' hk' sk' q => ⟨π', G', m', ρ', e24.trans e', hk', sk', q⟩⟩
  · have e : i = xs.length := by omega
    subst e
    exact .inl ⟨stop, wd1.nx σ2 ρ2 π2 G2 H2 m2 e2 hk2 sk2 (hd ρ2 m2 hI)⟩
/-! ### while -/
theorem ws_while (F : Fam X P w K mg base N sc fv k) (I : Nat → Ro → Mm → Prop) {n0 : Nat} (h0 : I n0 ρ m)
    (hb : ∀ n ρ' m', I n ρ' m' → Wt X K c ρ' m' fun b m1 => if b = true then Ws X K body ρ' m1 { D with nx := fun ρ2 m2 => ∃ n', n' < n ∧ I n' ρ2 m2, ct := fun ρ2 m2 => ∃ n', n' < n ∧ I n' ρ2 m2, bk := D.nx } else D.nx ρ' m1) : Ws1 X K (.While c body [] pos) ρ m D := fun π G σ H D' hk sk wd => by
  refine ⟨_, fun j => ps_while (F.px j) (ttOf X c j) (tssOf X body j), fun mm σ' H' => ∃ π' G' m' ρ', Xt π G H π' G' H' ∧ Hk K π' G' H' m' ∧ Sk K π' G' σ' ρ' ∧ I mm ρ' m', ⟨n0, π, G, m, ρ, Xt.refl, hk, sk, h0⟩, ?_⟩
  rintro mm σ2 H2 ⟨π2, G2, m2, ρ2, e2, hk2, sk2, hI⟩
  refine hb mm ρ2 m2 hI π2 G2 σ2 H2 _ hk2 sk2 fun b π3 G3 H3 m3 e3 hk3 q3 => ?_
  have e23 := e2.trans e3
  cases b with
  | true =>
    rw [if_pos rfl] at q3 ⊢
    refine ⟨fun σ' H' => ∃ n', n' < mm ∧ ∃ π' G' m' ρ', Xt π G H π' G' H' ∧ Hk K π' G' H' m' ∧ Sk K π' G' σ' ρ' ∧ I n' ρ' m', fun σ' H' ⟨n', l, q⟩ => ⟨n', l, q⟩, ?_⟩
    exact q3 π3 G3 σ2 H3 _ hk3 (sk2.xt e3) ⟨fun σ' ρ' π' G' H' m' e' hk' sk' ⟨n', l, q⟩ => ⟨n', l, π', G', m', ρ', e23.trans e', hk', sk', q⟩, (wd.xt e23).rt, (wd.xt e23).nx, fun σ' ρ' π' G' H' m' e' hk' sk' ⟨n', l, q⟩ => ⟨n', l, π', G', m', ρ', e23.trans e', hk', sk', q⟩⟩
  | false =>
    rw [if_neg Bool.false_ne_true] at q3 ⊢
    exact (wd.xt e23).nx σ2 ρ2 π3 G3 H3 m3 Xt.refl hk3 (sk2.xt e3) q3
/-! ### what is walked -/
/-- a value that is a sequence, by the store -/
def seqOf (m : Mm) : MV → Option (List MV)
  | .d (.list ds) => some (ds.map .d)
  | .d (.tuple ds) => some (ds.map .d)
  | .r i => match m[i]? with
    | some (.lst xs) => some xs
    | _ => none
  | _ => none
/-- a list (true) or a tuple -/
def knd : MV → Bool
  | .d (.tuple _) => false
  | _ => true
theorem seq_real {v : V} {xs : List MV} (hk : Hk K π G H m) (rv : Rv K G π v x) (hx : seqOf m x = some xs) : ∃ a vs, v = .ref a ∧ SqA K (knd x) H a vs ∧ Rvs K G π vs xs := by
  cases x with
  | d y =>
    cases y with
    | list ds =>
      cases hx
      obtain ⟨a, vs, e, h1, h2⟩ := Da.lstI rv
      exact ⟨a, vs, e, SqL.of (hk.sub _ _ h1), data_rvs h2⟩
    | tuple ds =>
      cases hx
      obtain ⟨a, vs, e, h1, h2⟩ := Da.tupI rv
      exact ⟨a, vs, e, Same.tupq hk.sub h1, data_rvs h2⟩
    | none => cases hx
    | bool _ => cases hx
    | int _ => cases hx
    | str _ => cases hx
    | dict _ => cases hx
  | t _ => cases hx
  | s _ => cases hx
  | r i =>
    obtain ⟨a, ha, e⟩ := rv
    have hx : (match m[i]? with | some (.lst xs) => some xs | _ => none) = some xs := hx
    cases ho : m[i]? with
    | none => rw [ho] at hx; cases hx
    | some o =>
      cases o with
      | ins C fs => rw [ho] at hx; cases hx
      | dct _ => rw [ho] at hx; cases hx
      | lst ys =>
        rw [ho] at hx
        cases hx
        obtain ⟨a', u, h1, h2, vs, eu, rs⟩ := hk.obj i _ ho
        rw [ha] at h1; cases h1
        subst eu
        exact ⟨a, vs, e, SqL.of h2, rs⟩
theorem paired_get {α β : Type} {F : α → β → Prop} : ∀ {as : List α} {bs : List β} {i : Nat} {a : α}, Paired F as bs → as[i]? = some a → ∃ b, bs[i]? = some b ∧ F a b
  | _, _, _, _, .nil, e => by simp at e
  | _, _, 0, _, .cons r _, e => by simp at e; subst e; exact ⟨_, rfl, r⟩
  | _, _, i + 1, a, .cons _ t, e => by
    obtain ⟨u, h1, h2⟩ := paired_get (i := i) (a := a) t (by simpa using e)
    exact ⟨u, by simpa using h1, h2⟩
theorem paired_getR {α β : Type} {F : α → β → Prop} : ∀ {as : List α} {bs : List β} {i : Nat} {b : β}, Paired F as bs → bs[i]? = some b → ∃ a, as[i]? = some a ∧ F a b
  | _, _, _, _, .nil, e => by simp at e
  | _, _, 0, _, .cons r _, e => by simp at e; subst e; exact ⟨_, rfl, r⟩
  | _, _, i + 1, a, .cons _ t, e => by
    obtain ⟨u, h1, h2⟩ := paired_getR (i := i) (b := a) t (by simpa using e)
    exact ⟨u, by simpa using h1, h2⟩
theorem Wi.mono {Q Q' : List MV → (Mm → Prop) → Mm → Prop} (h : Wi X K tg it ρ m Q) (q : ∀ xs gd m', Q xs gd m' → Q' xs gd m') : Wi X K tg it ρ m Q' := fun π G σ H R hk sk wr => h π G σ H R hk sk fun J xs gd π' G' H' m' e' hk' ok hq => wr J xs gd π' G' H' m' e' hk' ok (q _ _ _ hq)
/-- over a list (its items stand still) -/
theorem wi_l (F : Fam X P w K mg base N sc fv k) {Q : List MV → (Mm → Prop) → Mm → Prop} (h : We X K e ρ m fun x m1 => ∃ xs, seqOf m1 x = some xs ∧ knd x = true ∧ Q xs (fun m' => seqOf m' x = some xs) m1) : Wi X K tg e ρ m Q := fun π G σ H R hk sk wr => by
  refine ⟨iList K (TeOf X e), fun j => F.cK j ▸ pi_list (teOf X e j), h π G σ H _ hk sk fun v x π1 G1 H1 m1 e1 hk1 rv ⟨xs, hx, kx, q⟩ => ?_⟩
  obtain ⟨a, vs, ev, hs, rs⟩ := seq_real hk1 rv hx
  rw [kx] at hs
  refine ⟨a, ev, ⟨vs, hs⟩, wr (Itl K a) xs _ π1 G1 H1 m1 e1 hk1 (fun π2 G2 H2 m2 e2 hk2 gd => ?_) q⟩
  obtain ⟨a', vs2, ev2, hs2, rs2⟩ := seq_real hk2 (rv.xt e2) gd
  rw [ev] at ev2; cases ev2
  rw [kx] at hs2
  have l2 := Paired.length rs2
  refine ⟨fun i hi => ⟨vs2, vs2[i]'(by omega), hs2, by simp [show i < vs2.length by omega]⟩, ⟨vs2, hs2, by omega⟩, fun i v' H3 hi y => ?_⟩
  obtain ⟨eh, hy⟩ := y
  subst eh
  obtain ⟨b, hb, rb⟩ := paired_get rs2 (hy vs2 hs2)
  exact ⟨b, G2, hb, Xt.refl, hk2, rb⟩
/-- over a tuple -/
theorem wi_t (F : Fam X P w K mg base N sc fv k) {Q : List MV → (Mm → Prop) → Mm → Prop} (h : We X K e ρ m fun x m1 => ∃ ds, x = .d (.tuple ds) ∧ Q (ds.map .d) (fun _ => True) m1) : Wi X K tg e ρ m Q := fun π G σ H R hk sk wr => by
  refine ⟨iTup K (TeOf X e), fun j => F.cK j ▸ pi_tup (teOf X e j), h π G σ H _ hk sk fun v x π1 G1 H1 m1 e1 hk1 rv ⟨ds, ex, q⟩ => ?_⟩
  subst ex
  obtain ⟨a, vs, ev, hs, rs⟩ := Da.tupI rv
  have hs1 : SqT K H1 a vs := Same.tupq hk1.sub hs
  refine ⟨a, ev, ⟨vs, hs1⟩, wr (Itt K a) _ _ π1 G1 H1 m1 e1 hk1 (fun π2 G2 H2 m2 e2 hk2 gd => ?_) q⟩
  have hs2 : SqT K H2 a vs := Same.tupq hk2.sub (Same.tupq e2.g hs)
  have rs2 : Rvs K G2 π2 vs (ds.map .d) := data_rvs (daAll_mono e2.g rs)
  have l2 := Paired.length rs2
  refine ⟨fun i hi => ⟨vs, vs[i]'(by omega), hs2, by simp [show i < vs.length by omega]⟩, ⟨vs, hs2, by omega⟩, fun i v' H3 hi y => ?_⟩
  obtain ⟨eh, hy⟩ := y
  subst eh
  obtain ⟨b, hb, rb⟩ := paired_get rs2 (hy vs hs2)
  exact ⟨b, G2, hb, Xt.refl, hk2, rb⟩
/-- range -/
def rangeM (lo : Int) (n : Nat) : List MV := (List.range n).map fun i => .d (.int (lo + (i : Nat)))
theorem rangeM_len (lo : Int) (n : Nat) : (rangeM lo n).length = n := by simp [rangeM]
theorem rangeM_get {lo : Int} {n i : Nat} (h : i < n) : (rangeM lo n)[i]? = some (.d (.int (lo + (i : Nat)))) := by simp [rangeM, h]
theorem rangeM_some {lo : Int} {n i : Nat} {x : MV} (h : (rangeM lo n)[i]? = some x) : i < n ∧ x = .d (.int (lo + (i : Nat))) := by
  have hi : i < n := by
    by_cases z : i < n
    · exact z
    · rw [List.getElem?_eq_none (by rw [rangeM_len]; omega)] at h; cases h
  rw [rangeM_get hi] at h
  exact ⟨hi, (Option.some.inj h).symm⟩
theorem itok_range {lo : Int} {n : Nat} : ItOk K π G H (Itr lo n) (rangeM lo n) (fun _ => True) := fun π2 G2 H2 m2 e2 hk2 gd => by
  rw [rangeM_len]
  refine ⟨fun i hi => hi, Nat.le_refl _, fun i v H3 hi y => ?_⟩
  obtain ⟨eh, ey⟩ := y
  subst eh ey
  exact ⟨_, G2, rangeM_get hi, Xt.refl, hk2, Da.int _⟩
theorem wi_range1 (F : Fam X P w K mg base N sc fv k) {Q : List MV → (Mm → Prop) → Mm → Prop} (hm : mg "range" = none) (h : Wr X K [e] ρ m fun xs m1 => ∃ n : Int, xs = [.d (.int n)] ∧ -1000000 ≤ n ∧ n ≤ 1000000 ∧ Q (rangeM 0 n.toNat) (fun _ => True) m1) (hg : sc.names.lookup ("range" : Str) = some .globalImplicit := by rfl)
    (hs : ∀ env : Env, starEach [e] env = [(false, eval e env)] := by intro _; rfl) : Wi X K tg (.Call (.Name "range" p) [e] [] pos) ρ m Q := fun π G σ H R hk sk wr =>
  ⟨_, fun j => pi_range1 (F.gl hg j) (by rw [F.cM]; exact hm) (taOf X [e] j) (hs _), h π G σ H _ hk sk fun vs xs π1 G1 H1 m1 e1 hk1 rvs ⟨n, ex, n1, n2, q⟩ => by
    rw [ex] at rvs
    cases rvs with
    | cons r t =>
      cases t
      exact ⟨n, by rw [Da.intI r], by omega, by omega, wr _ _ _ π1 G1 H1 m1 e1 hk1 itok_range q⟩⟩
theorem wi_range2 (F : Fam X P w K mg base N sc fv k) {Q : List MV → (Mm → Prop) → Mm → Prop} (hm : mg "range" = none) (h : Wr X K [a, b] ρ m fun xs m1 => ∃ i j : Int, xs = [.d (.int i), .d (.int j)] ∧ -1000000 ≤ i ∧ i ≤ 1000000 ∧ -1000000 ≤ j ∧ j ≤ 1000000 ∧ Q (rangeM i (j - i).toNat) (fun _ => True) m1) (hg : sc.names.lookup ("range" : Str) = some .globalImplicit := by rfl)
    (hs : ∀ env : Env, starEach [a, b] env = [(false, eval a env), (false, eval b env)] := by intro _; rfl) (hs2 : ∀ env : Env, starEach [b] env = [(false, eval b env)] := by intro _; rfl) : Wi X K tg (.Call (.Name "range" p) [a, b] [] pos) ρ m Q := fun π G σ H R hk sk wr =>
  ⟨_, fun j => pi_range2 (F.gl hg j) (by rw [F.cM]; exact hm) (taOf X [a, b] j) (hs _) (hs2 _), h π G σ H _ hk sk fun vs xs π1 G1 H1 m1 e1 hk1 rvs ⟨i, j, ex, n1, n2, n3, n4, q⟩ => by
    rw [ex] at rvs
    cases rvs with
    | cons r t =>
      cases t with
      | cons r2 t2 =>
        cases t2
        exact ⟨i, j, by rw [Da.intI r, Da.intI r2], ⟨by omega, by omega, by omega, by omega⟩, wr _ _ _ π1 G1 H1 m1 e1 hk1 itok_range q⟩⟩
/-- zip of two sequences of data -/
theorem wi_zip (F : Fam X P w K mg base N sc fv k) {elts : List Expr} {kk : Nat} {tpos : Pos} {Q : List MV → (Mm → Prop) → Mm → Prop} (hm : mg "zip" = none)
    (h : Wr X K [a, b] ρ m fun zs m1 => ∃ x y ds es, zs = [x, y] ∧ seqOf m1 x = some (ds.map .d) ∧ seqOf m1 y = some (es.map .d) ∧ Q (List.zipWith (fun d e => MV.d (.tuple [d, e])) ds es) (fun m' => seqOf m' x = some (ds.map .d) ∧ seqOf m' y = some (es.map .d)) m1) (hg : sc.names.lookup ("zip" : Str) = some .globalImplicit := by rfl)
    (hs : ∀ env : Env, starEach [a, b] env = (false, eval a env) :: starEach [b] env := by intro _; rfl) (hpl : ∀ env : Env, (backTo pos (starEach [b] env)).any (·.1) = false := by intro _; rfl) : Wi X K (.Tuple elts kk tpos) (.Call (.Name "zip" p) [a, b] [] pos) ρ m Q := fun π G σ H R hk sk wr => by
  refine ⟨iZipW K (TaOf X [a, b]), fun j => F.cK j ▸ pi_zipW (F.gl hg j) (by rw [F.cM]; exact hm) (taOf X [a, b] j) (hs _) (hpl _), h π G σ H _ hk sk fun vs zs π1 G1 H1 m1 e1 hk1 rvs ⟨x, y, ds, es, ez, hx, hy, q⟩ => ?_⟩
  subst ez
  cases rvs with
  | cons rx t =>
    cases t with
    | cons ry t2 =>
      cases t2
      obtain ⟨a1, vs1, ev1, hs1, rs1⟩ := seq_real hk1 rx hx
      obtain ⟨a2, vs2, ev2, hs2, rs2⟩ := seq_real hk1 ry hy
      subst ev1 ev2
      refine ⟨knd x, knd y, a1, a2, vs1, vs2, rfl, hs1, hs2, wr _ _ _ π1 G1 H1 m1 e1 hk1 (fun π2 G2 H2 m2 e2 hk2 gd => ?_) q⟩
      obtain ⟨b1, ws1, f1, gs1, ts1⟩ := seq_real hk2 (rx.xt e2) gd.1
      obtain ⟨b2, ws2, f2, gs2, ts2⟩ := seq_real hk2 (ry.xt e2) gd.2
      cases f1; cases f2
      have l1 := Paired.length ts1
      have l2 := Paired.length ts2
      simp only [List.length_map] at l1 l2
      have ln : (List.zipWith (fun d e => MV.d (.tuple [d, e])) ds es).length = min ds.length es.length := by simp
      rw [ln]
      refine ⟨fun i hi => ⟨ws1, ws2, ws1[i]'(by omega), ws2[i]'(by omega), gs1, gs2, by simp [show i < ws1.length by omega], by simp [show i < ws2.length by omega]⟩, ⟨ws1, ws2, gs1, gs2, by omega, by omega, by omega⟩, fun i v H3 hi yl => ?_⟩
      obtain ⟨T, x', y', ev, hT, eH, g1, g2⟩ := yl
      subst ev eH
      obtain ⟨c1, hc1, r1⟩ := paired_get ts1 (g1 ws1 gs1)
      obtain ⟨c2, hc2, r2⟩ := paired_get ts2 (g2 ws2 gs2)
      rw [List.getElem?_map] at hc1 hc2
      cases hd1 : ds[i]? with
      | none => rw [hd1] at hc1; cases hc1
      | some d1 =>
        cases hd2 : es[i]? with
        | none => rw [hd2] at hc2; cases hc2
        | some d2 =>
          rw [hd1] at hc1; rw [hd2] at hc2
          cases hc1; cases hc2
          have gT := hk2.sub.free hT
          exact ⟨.d (.tuple [d1, d2]), upd G2 T (.tup [x', y']), by simp [List.getElem?_zipWith, hd1, hd2], Xt.new hT gT, hk2.new hT, Da.tup (SqT.of upd_same) (.cons (da_mono (same_new gT) r1) (.cons (da_mono (same_new gT) r2) .nil))⟩
def enumD (ds : List PyData) : List MV := (List.range ds.length).map fun i => .d (.tuple [.int (i : Nat), ds.getD i .none])
theorem enumD_get {ds : List PyData} {i : Nat} {d : PyData} (h : ds[i]? = some d) : (enumD ds)[i]? = some (.d (.tuple [.int (i : Nat), d])) := by
  have hi := (List.getElem?_eq_some_iff.mp h).1
  have e := (List.getElem?_eq_some_iff.mp h).2
  simp [enumD, hi, List.getD, e]
theorem wi_enum (F : Fam X P w K mg base N sc fv k) {elts : List Expr} {kk : Nat} {tpos : Pos} {Q : List MV → (Mm → Prop) → Mm → Prop} (hm : mg "enumerate" = none)
    (h : Wr X K [a] ρ m fun zs m1 => ∃ x ds, zs = [x] ∧ seqOf m1 x = some (ds.map .d) ∧ Q (enumD ds) (fun m' => seqOf m' x = some (ds.map .d)) m1) (hg : sc.names.lookup ("enumerate" : Str) = some .globalImplicit := by rfl)
    (hs : ∀ env : Env, starEach [a] env = [(false, eval a env)] := by intro _; rfl) : Wi X K (.Tuple elts kk tpos) (.Call (.Name "enumerate" p) [a] [] pos) ρ m Q := fun π G σ H R hk sk wr => by
  refine ⟨iEnumW K (TaOf X [a]), fun j => F.cK j ▸ pi_enumW (F.gl hg j) (by rw [F.cM]; exact hm) (taOf X [a] j) (hs _), h π G σ H _ hk sk fun vs zs π1 G1 H1 m1 e1 hk1 rvs ⟨x, ds, ez, hx, q⟩ => ?_⟩
  subst ez
  cases rvs with
  | cons rx t =>
    cases t
    obtain ⟨a1, vs1, ev1, hs1, rs1⟩ := seq_real hk1 rx hx
    subst ev1
    refine ⟨knd x, a1, vs1, rfl, hs1, wr _ _ _ π1 G1 H1 m1 e1 hk1 (fun π2 G2 H2 m2 e2 hk2 gd => ?_) q⟩
    obtain ⟨b1, ws1, f1, gs1, ts1⟩ := seq_real hk2 (rx.xt e2) gd
    cases f1
    have l1 := Paired.length ts1
    simp only [List.length_map] at l1
    have ln : (enumD ds).length = ds.length := by simp [enumD]
    rw [ln]
    refine ⟨fun i hi => ⟨ws1, ws1[i]'(by omega), gs1, by simp [show i < ws1.length by omega]⟩, ⟨ws1, gs1, by omega⟩, fun i v H3 hi yl => ?_⟩
    obtain ⟨T, x', ev, hT, eH, g1⟩ := yl
    subst ev eH
    obtain ⟨c1, hc1, r1⟩ := paired_get ts1 (g1 ws1 gs1)
    rw [List.getElem?_map] at hc1
    cases hd1 : ds[i]? with
    | none => rw [hd1] at hc1; cases hc1
    | some d1 =>
      rw [hd1] at hc1
      cases hc1
      have gT := hk2.sub.free hT
      exact ⟨_, upd G2 T (.tup [.int (i : Nat), x']), enumD_get hd1, Xt.new hT gT, hk2.new hT, Da.tup (SqT.of upd_same) (.cons (Da.int _) (.cons (da_mono (same_new gT) r1) .nil))⟩
end
end Wn
set_option Elab.async false
set_option linter.all false
set_option maxRecDepth 100000
set_option maxHeartbeats 2000000
set_option autoImplicit false
namespace Wn
open PySem L2
section
variable {ι : Type} {X : ι → Cx} {P : Program} {w : World} {K : PySem.W.Frag} {mg : Str → Option Value} {base : Heap} {N : List Str} {sc : Scope} {fv : Str → Bool} {k : Nat} {ρ : Ro} {m : Mm} {Q Q' : QV} {D : Ed} {a b c e tg it elt : Expr} {pos p : Pos} {x y z : MV} {st : Stmt} {rest body : List Stmt}
variable {π π1 : List Addr} {G H G1 H1 : Hp}
/-! ### a comprehension's block -/
abbrev Bi (ι : Type) : Type := ι × Shared × Hp × Addr × List (Str × Addr) × List Addr
def Blk (X : ι → Cx) (scope : Scope) : Bi ι → Cx := fun q => (X q.1).blk q.2.1 q.2.2.1 scope (compEnvC scope q.2.2.2.2.1 q.2.2.2.1 (X q.1).env) q.2.2.2.2.2
theorem Fam.blk (F : Fam X P w K mg base N sc fv k) (scope : Scope) : Fam (Blk X scope) P w K mg base N (relS scope sc) (fun x => scope.names.lookup x == some .cell) k where
  nd := F.nd
  cP := fun q => F.cP q.1
  cW := fun q => F.cW q.1
  cK := fun q => F.cK q.1
  cM := fun q => F.cM q.1
  cB := fun q => F.cB q.1
  cN := fun q => F.cN q.1
  cS := fun q => by
    have e : (Blk X scope q).env.scope = relS scope (X q.1).env.scope := rfl
    rw [e, F.cS]
  calm := fun q => F.calm q.1
  room := fun q => F.room q.1
  px := fun q => PassesOwn.never
  cF := fun q => rfl
def wipeM (ρ : Ro) : List Nat → Ro
  | [] => ρ
  | v :: vs => (wipeM ρ vs).set v none
theorem Sk.clear {σ : St} (h : Sk K π G σ ρ) (i : Nat) : Sk K π G (σ.set i none) (ρ.set i none) := by
  refine ⟨by simp [h.len], fun j y q => ?_⟩
  by_cases e : i = j
  · subst e
    by_cases z : i < ρ.length
    · rw [List.getElem?_set_self z] at q; cases q
    · rw [List.getElem?_eq_none (by simp; omega)] at q; cases q
  · rw [List.getElem?_set_ne e] at q ⊢
    exact h.get j y q
theorem Sk.wipe {σ : St} (h : Sk K π G σ ρ) : ∀ vs : List Nat, Sk K π G (wipe σ vs) (wipeM ρ vs)
  | [] => h
  | v :: vs => (h.wipe vs).clear v
theorem wipe_eq {σ σ2 : St} : ∀ (vs : List Nat), σ2.length = σ.length → (∀ k, k ∉ vs → σ2[k]? = σ[k]?) → wipe σ2 vs = wipe σ vs
  | [], _, h => List.ext_getElem? fun k => h k (by simp)
  | v :: vs, hl, h => by
    unfold wipe
    apply List.ext_getElem?
    intro k
    by_cases e : v = k
    · subst e
      by_cases z : v < σ.length
      · rw [List.getElem?_set_self (by rw [wipe_length, hl]; exact z), List.getElem?_set_self (by rw [wipe_length]; exact z)]
      · rw [List.getElem?_eq_none (by simp [wipe_length]; omega), List.getElem?_eq_none (by simp [wipe_length]; omega)]
    · rw [List.getElem?_set_ne e, List.getElem?_set_ne e]
      have key : ∀ (us : List Nat) (τ : St) (j : Nat), (L2.wipe τ us)[j]? = if j ∈ us then (if j < τ.length then some none else none) else τ[j]? := by
        intro us
        induction us with
        | nil => intro τ j; simp [L2.wipe]
        | cons u us ih =>
          intro τ j
          unfold L2.wipe
          by_cases q : u = j
          · subst q
            by_cases z : u < τ.length
            · rw [List.getElem?_set_self (by rw [wipe_length]; exact z)]; simp [z]
            · rw [List.getElem?_eq_none (by simp [wipe_length]; omega)]; simp [z]
          · rw [List.getElem?_set_ne q, ih]
            have : (j ∈ u :: us) ↔ (j ∈ us) := by simp [Ne.symm q]
            simp [this]
      rw [key, key]
      by_cases q : k ∈ vs
      · rw [if_pos q, if_pos q, hl]
      · rw [if_neg q, if_neg q]
        exact h k (by simp [q, Ne.symm e])
theorem wipe_get {σ : St} {vs : List Nat} {k : Nat} (h : k ∉ vs) : (wipe σ vs)[k]? = σ[k]? := by
  induction vs with
  | nil => rfl
  | cons v vs ih =>
    unfold wipe
    rw [List.getElem?_set_ne (by intro z; exact h (by simp [z]))]
    exact ih (fun z => h (List.mem_cons_of_mem _ z))
theorem wts_nil {Q : Bool → Mm → Prop} (q : Q true m) : Wts X K [] ρ m Q := fun π G σ H R hk sk wb => ⟨_, fun _ => pts_nil, wb true π G H m Xt.refl hk q⟩
theorem wts_one {Q : Bool → Mm → Prop} (h : Wt X K c ρ m Q) : Wts X K [c] ρ m Q := fun π G σ H R hk sk wb => ⟨_, fun j => pts_one (ttOf X c j), h π G σ H R hk sk wb⟩
theorem Hk.other (h : Hk K π G H m) {p : Addr} {u : HO} (hn : p ∉ π) (hg : G p = none) : Hk K π G (upd H p u) m := by
  refine ⟨fun a o e => ?_, h.len, h.nd, h.hid, fun i o q => ?_⟩
  · rw [upd_ne (fun z => by rw [z, hg] at e; cases e)]; exact h.sub a o e
  · obtain ⟨a, w, h1, h2, h3⟩ := h.obj i o q
    exact ⟨a, w, h1, by rw [upd_ne (fun z => hn (by rw [← z]; exact List.mem_of_getElem? h1))]; exact h2, h3⟩
theorem Xt.other {π2 : List Addr} {G2 H2 : Hp} {p : Addr} {u : HO} (h : Xt π G H π2 G2 H2) (hp : H p = none) : Xt π G H π2 G2 (upd H2 p u) :=
  ⟨h.g, h.p, fun a o e na => by rw [upd_ne (ne_of_none e hp)]; exact h.fr a o e na, fun a e => by
    by_cases z : a = p
    · subst z; rw [upd_same]; simp
    · rw [upd_ne z]; exact h.al a e, h.n⟩
/-- [elt for tg in it if ..]: I by the turn, what is made so far, the store -/
def LcW (X : ι → Cx) (K : PySem.W.Frag) (scope : Scope) (own : List (Str × Nat)) (tg it : Expr) (ifs : List Expr) (elt : Expr) (ρ : Ro) (m : Mm) (Q : QV) : Prop :=
  Wi X K tg it ρ m fun xs gd m1 => xs.length ≤ 100000 ∧ ∃ I : Nat → List MV → Mm → Prop, I 0 [] m1 ∧ (∀ i acc m', i ≤ xs.length → I i acc m' → gd m') ∧
    (∀ i x acc m', xs[i]? = some x → I i acc m' → Wg (Blk X scope) K (fun k => k ∈ own.map (·.2)) tg x (wipeM ρ (own.map (·.2))) m' fun ρ2 m2 => Wts (Blk X scope) K ifs ρ2 m2 fun b m3 =>
      if b = true then We (Blk X scope) K elt ρ2 m3 fun y m4 => I (i + 1) (acc ++ [y]) m4 else I (i + 1) acc m3) ∧ ∀ acc m', I xs.length acc m' → NewL acc m' Q
theorem lc_reads {scope : Scope} {own : List (Str × Nat)} {ifs : List Expr} {σ : St} {R : VK} (h : LcW X K scope own tg it ifs elt ρ m Q) (hk : Hk K π G H m) (sk : Sk K π G σ ρ) (wv : Wv K π G H Q R) :
    tLc (TiOf X tg it) (TgOf (Blk X scope) tg) (TtsOf (Blk X scope) ifs) (TeOf (Blk X scope) elt) (own.map (·.2)) σ H R := by
  refine h π G σ H _ hk sk fun J xs gd π1 G1 H1 m1 e1 hk1 ok ⟨hz, I, h0, hg, hb, hd⟩ D hD => ?_
  have wv1 := wv.xt e1
  have sk1 := sk.xt e1
  have gD := hk1.sub.free hD
  have nD := hk1.nin hD
  refine ⟨fun i mm H' => mm = xs.length - i ∧ i ≤ xs.length ∧ ∃ π' G' m' acc vs, Xt π1 G1 H1 π' G' H' ∧ Hk K π' G' H' m' ∧ H' D = some (.lst vs) ∧ G' D = none ∧ D ∉ π' ∧ Rvs K G' π' vs acc ∧ vs.length ≤ i ∧ I i acc m',
    ⟨_, rfl, Nat.zero_le _, π1, G1, m1, [], [], Xt.refl.other hD, hk1.other nD gD, upd_same, gD, nD, .nil, Nat.le_refl _, h0⟩, ?_⟩
  rintro i mm H2 ⟨rfl, hi, π2, G2, m2, acc, vs, e2, hk2, d2, g2, n2, r2, l2, hI⟩
  obtain ⟨go, stop, yl⟩ := ok π2 G2 H2 m2 e2 hk2 (hg i acc m2 hi hI)
  by_cases hlt : i < xs.length
  · refine .inr ⟨go i hlt, fun H' => ∃ π' G' m' acc vs, Xt π1 G1 H1 π' G' H' ∧ Hk K π' G' H' m' ∧ H' D = some (.lst vs) ∧ G' D = none ∧ D ∉ π' ∧ Rvs K G' π' vs acc ∧ vs.length ≤ i + 1 ∧ I (i + 1) acc m', fun H' q => ⟨xs.length - (i + 1), by omega, rfl, hlt, q⟩, fun v H3 y => ?_⟩
    obtain ⟨x, G3, hx, e3, hk3, rx⟩ := yl i v H3 hlt y
    refine hb i x acc m2 hx hI π2 G3 _ H3 _ v hk3 (((sk1.xt e2).wipe _).xt e3) rx fun σ4 ρ4 π4 G4 H4 m4 e4 hk4 sk4 l4 f4 q4 => ⟨?_, ?_⟩
    · refine wipe_eq _ (by rw [l4, wipe_length]) fun j hj => ?_
      rw [f4 j hj, wipe_get hj]
    · refine q4 π4 G4 σ4 H4 _ hk4 sk4 fun b π5 G5 H5 m5 e5 hk5 q5 => ?_
      have e25 := (e3.trans e4).trans e5
      have keep : ∀ {π' : List Addr} {G' H' : Hp}, Xt π2 G2 H2 π' G' H' → H' D = some (.lst vs) ∧ G' D = none ∧ D ∉ π' := fun {π' G' H'} e => by
        refine ⟨e.fr D _ d2 n2, e.n D (by rw [d2]; simp) g2, fun hm => ?_⟩
        obtain ⟨τ, et, ft⟩ := e.p
        rw [et] at hm
        rcases List.mem_append.mp hm with hm | hm
        · exact n2 hm
        · rw [ft D hm] at d2; cases d2
      cases b with
      | true =>
        rw [if_pos rfl] at q5 ⊢
        refine q5 π5 G5 σ4 H5 _ hk5 (sk4.xt e5) fun u y π6 G6 H6 m6 e6 hk6 ru q6 => ?_
        have e26 := e25.trans e6
        obtain ⟨k1, k2, k3⟩ := keep e26
        refine ⟨vs, k1, Nat.lt_of_le_of_lt l2 (Nat.lt_of_lt_of_le hlt (Nat.le_trans hz (by decide))), π6, G6, m6, acc ++ [y], vs ++ [u], (e2.trans e26).other hD, hk6.other k3 k2, upd_same, k2, k3, Paired.snoc (Rvs.xt r2 e26) ru, by simp; omega, q6⟩
      | false =>
        rw [if_neg Bool.false_ne_true] at q5 ⊢
        obtain ⟨k1, k2, k3⟩ := keep e25
        exact ⟨π5, G5, m5, acc, vs, e2.trans e25, hk5, k1, k2, k3, Rvs.xt r2 e25, by omega, q5⟩
  · have e : i = xs.length := by omega
    subst e
    refine .inl ⟨stop, newl_at (K := K) (R := R) hk2 d2 n2 g2 r2 (hd acc m2 hI) fun x π' G' m' sg ng ep hk' rx hq => ?_⟩
    refine wv1 _ x π' G' H2 m' ⟨e2.g.trans sg, ?_, e2.fr, e2.al, fun a h1 h2 => ng a (fun z => by rw [z] at h1; exact h1 hD) (e2.n a h1 h2)⟩ hk' rx hq
    obtain ⟨τ, et, ft⟩ := e2.p
    rcases ep with ep | ep
    · exact ⟨τ, by rw [ep, et], ft⟩
    · refine ⟨τ ++ [D], by rw [ep, et, List.append_assoc], fun a ha => ?_⟩
      rcases List.mem_append.mp ha with ha | ha
      · exact ft a ha
      · simp at ha; rw [ha]; exact hD
theorem blk_ok (F : Fam X P w K mg base N sc fv k) {scope : Scope} {own : List (Str × Nat)} (h : blkC N sc scope own = true) (j : ι) : BlkOk (X j).N (X j).env.scope scope own := by
  rw [F.cN, F.cS]
  exact blkOk_by h
theorem we_lc (F : Fam X P w K mg base N sc fv k) {scope : Scope} (own : List (Str × Nat)) {ifs : List Expr} (h : LcW X K scope own tg it ifs elt ρ m Q) (ok : blkC N sc scope own = true := by decide +kernel)
    (hs : ∀ (env : Env) x, foldedSetIterable it env x = pure x := by intro _ _; rfl) : We X K (.ListComp elt [⟨tg, it, ifs, 0⟩] scope pos) ρ m Q := fun π G σ H R hk sk wv =>
  ⟨_, fun j => pe_lc (F.calm j) (by rw [F.cN]; exact F.nd) (tiOf X tg it j) (blk_ok F ok j) (fun s H C cl fp => tgOf (Blk X scope) tg (j, s, H, C, cl, fp)) (fun s H C cl fp => ttsOf (Blk X scope) ifs (j, s, H, C, cl, fp)) (fun s H C cl fp => teOf (Blk X scope) elt (j, s, H, C, cl, fp)) (hs _), lc_reads h hk sk wv⟩
theorem ws_setLc (F : Fam X P w K mg base N sc fv k) (i : Nat) {scope : Scope} (own : List (Str × Nat)) {ifs : List Expr} {nm : Str} {py spos : Pos} (h : LcW X K scope own tg it ifs elt ρ m fun x m' => D.nx (ρ.set i (some x)) m') (ok : blkC N sc scope own = true := by decide +kernel)
    (hN : N[i]? = some nm := by rfl) (hl : sc.names.lookup nm = some .local := by rfl) (hk0 : sc.kind = .function := by rfl) (hln : (py.line == pos.line) = true := by rfl) (ha : (scope.names.any fun (n, k) => n == nm && (k == .local || k == .cell)) = false := by decide +kernel)
    (hs : ∀ (env : Env) x, foldedSetIterable it env x = pure x := by intro _ _; rfl) : Ws1 X K (.Assign [.Name nm py] (.ListComp elt [⟨tg, it, ifs, 0⟩] scope pos) spos) ρ m D := fun π G σ H D' hk sk wd =>
  ⟨_, fun j => ps_setLc (i := i) (F.calm j) (by rw [F.cN]; exact F.nd) (by rw [F.cN]; exact hN) (by rw [F.cS]; exact hl) (sw_true (by rw [F.cS]; exact hk0) (by rw [F.cS]; exact hl) hln ha) (tiOf X tg it j) (blk_ok F ok j)
      (fun s H C cl fp => tgOf (Blk X scope) tg (j, s, H, C, cl, fp)) (fun s H C cl fp => ttsOf (Blk X scope) ifs (j, s, H, C, cl, fp)) (fun s H C cl fp => teOf (Blk X scope) elt (j, s, H, C, cl, fp)) (hs _),
    lc_reads h hk sk fun v x π1 G1 H1 m1 e1 hk1 rv q1 => wd.nx _ _ π1 G1 H1 m1 e1 hk1 ((sk.xt e1).set rv i) q1⟩
end
/-! ### defs -/
/-- what may be forgotten at a def's end: the store's younger part; a list that the def made goes out as data -/
def Ret (n : Nat) (Q : QV) (x : MV) (m' : Mm) : Prop :=
  Q x m' ∨ ((∀ o ∈ m'.take n, o.sc n) ∧ x.sc n ∧ Q x (m'.take n)) ∨ (∃ i ds, x = .r i ∧ n ≤ i ∧ m'[i]? = some (.lst (ds.map .d)) ∧ (∀ o ∈ m'.take n, o.sc n) ∧ Q (.d (.list ds)) (m'.take n))
def EndF (n : Nat) (Q : QV) : Ed := { nx := fun _ m' => Ret n Q (.d .none) m', rt := Ret n Q }
def startM (N : List Str) (xs : List MV) : Ro := xs.map some ++ List.replicate (N.length - xs.length) none
section
variable {P : Program} {w : World} {K : PySem.W.Frag} {mg : Str → Option Value} {base : Heap} {π : List Addr} {G H : Hp} {m : Mm} {Q : QV} {R : VK}
theorem ret_wish (hk : Hk K π G H m) (wv : Wv K π G H Q R) : Wv K π G H (Ret m.length Q) R := fun v x π' G' H' m' e hk' rv q => by
  obtain ⟨τ, et, ft⟩ := e.p
  have tk : π'.take m.length = π := by rw [et, ← hk.len]; simp
  rcases q with q | ⟨s, sx, q⟩ | ⟨i, ds, ex, hi, ho, s, q⟩
  · exact wv v x π' G' H' m' e hk' rv q
  · have h2 := hk'.drop s
    have r2 := rv.cut sx
    rw [tk] at h2 r2
    exact wv v x π G' H' _ ⟨e.g, ⟨[], by simp, by simp⟩, e.fr, e.al, e.n⟩ h2 r2 q
  · subst ex
    have h2 := hk'.drop s
    rw [tk] at h2
    obtain ⟨a, ha, rfl⟩ := rv
    obtain ⟨a', u, h1, h3, vs, eu, rs⟩ := hk'.obj i _ ho
    rw [ha] at h1; cases h1
    subst eu
    have hat : a ∈ τ := by
      rw [et, List.getElem?_append_right (by rw [hk.len]; exact hi)] at ha
      exact List.mem_of_getElem? ha
    have na : H a = none := ft a hat
    have nin : a ∉ π := hk.nin na
    have ga : G' a = none := hk'.hid a (List.mem_of_getElem? ha)
    refine wv _ (.d (.list ds)) π (upd G' a (.lst vs)) H' _ ⟨e.g.trans (same_new ga), ⟨[], by simp, by simp⟩, e.fr, e.al, fun b hb hg => ?_⟩ (h2.seal h3 nin ga) (Da.lst upd_same (daAll_mono (same_new ga) (rvs_data rs))) q
    rw [upd_ne (fun z => by rw [z] at hb; exact hb na)]
    exact e.n b hb hg
theorem sk_start {N : List Str} : ∀ {vs : List V} {xs : List MV}, Rvs K G π vs xs → Sk K π G (L2.start N vs) (startM N xs) := fun {vs xs} h => by
  have l := Paired.length h
  refine ⟨by simp [L2.start, startM, l], fun i x q => ?_⟩
  unfold startM at q
  by_cases hi : i < xs.length
  · rw [List.getElem?_append_left (by simpa using hi), List.getElem?_map] at q
    cases hx : xs[i]? with
    | none => rw [hx] at q; cases q
    | some y =>
      rw [hx] at q
      cases q
      obtain ⟨v, hv, rv⟩ := paired_getR h hx
      refine ⟨v, ?_, rv⟩
      unfold L2.start
      rw [List.getElem?_append_left (by simp; omega), List.getElem?_map, hv]
      rfl
  · rw [List.getElem?_append_right (by simpa using hi), List.getElem?_replicate] at q
    split at q <;> cases q
theorem fn_m {nm qual : Str} {st : Stmt} {f : Addr} {fd : FuncData} {N ps : List Str} {k : Nat} {T : List MV → Mm → QV → Prop} (F : Fun K nm qual st f fd) (S : FnScope N ps (defScope st)) (len : ∀ xs m Q, T xs m Q → xs.length = ps.length)
    (body : ∀ (X : Unit → Cx), Fam X P w K mg base N (defScope st) (fun _ => true) k → ∀ xs m Q, T xs m Q → Scd m → Ws X K (defBody st) (startM N xs) m (EndF m.length Q)) : FnOk P w K mg base CX0 (k + 1) f fd ps (spM K T) := by
  refine F.ok S (fun vs H Q E h => ?_) (fun cdv A outer s H vs Q E hr h => ?_)
  · obtain ⟨π, G, m, xs, Qm, hk, rvs, hT, _⟩ := h
    rw [Paired.length rvs]
    exact len xs m Qm hT
  · obtain ⟨π, G, m, xs, Qm, hk, rvs, hT, wv⟩ := h
    have fam : Fam (fun _ : Unit => (cxOf CX0 P w K mg base N qual (defScope st) f cdv A outer s H E).nox) P w K mg base N (defScope st) (fun _ => true) k :=
      ⟨S.nd, fun _ => rfl, fun _ => rfl, fun _ => rfl, fun _ => rfl, fun _ => rfl, fun _ => rfl, fun _ => rfl, fun _ => rfl, fun _ => hr, fun _ => PassesOwn.never, fun _ => rfl⟩
    obtain ⟨t, pt, ht⟩ := body _ fam xs m Qm hT hk.scd π G (L2.start N vs) H { nx := fun _ H' => Q .non H', rt := Q } hk (sk_start rvs)
      ⟨fun σ' ρ' π' G' H' m' e hk' _ q => ret_wish hk wv .non (.d .none) π' G' H' m' e hk' Da.non q, ret_wish hk wv, fun _ _ _ _ _ _ _ _ _ q => q.elim, fun _ _ _ _ _ _ _ _ _ q => q.elim⟩
    exact ⟨t, pt (), ht⟩
end
end Wn
set_option Elab.async false
set_option linter.all false
set_option maxRecDepth 100000
set_option maxHeartbeats 2000000
set_option autoImplicit false
namespace Wn
open PySem L2
/-- a value as data, by the store -/
def allD : List MV → Option (List PyData)
  | [] => some []
  | .d x :: r => (allD r).map (x :: ·)
  | _ :: _ => none
def datOf (m : Mm) : MV → Option PyData
  | .d x => some x
  | .r i => match m[i]? with
    | some (.lst xs) => (allD xs).map .list
    | _ => none
  | .t _ => none
  | .s _ => none
theorem allD_map : ∀ ds : List PyData, allD (ds.map .d) = some ds
  | [] => rfl
  | d :: ds => by show (allD (ds.map .d)).map (d :: ·) = _; rw [allD_map ds]; rfl
theorem allD_some : ∀ {xs : List MV} {ds : List PyData}, allD xs = some ds → xs = ds.map .d
  | [], ds, h => by cases h; rfl
  | .d x :: r, ds, h => by
    have h : (allD r).map (x :: ·) = some ds := h
    cases e : allD r with
    | none => rw [e] at h; cases h
    | some es => rw [e] at h; cases h; rw [allD_some e]; rfl
  | .r _ :: _, _, h => by cases h
  | .t _ :: _, _, h => by cases h
  | .s _ :: _, _, h => by cases h
section
variable {K : PySem.W.Frag} {π : List Addr} {G H : Hp} {m : Mm} {v : V} {x : MV}
theorem dat_real {d : PyData} (hk : Hk K π G H m) (rv : Rv K G π v x) (hx : datOf m x = some d) : Da K H v d := by
  cases x with
  | d y => cases hx; exact da_mono hk.sub rv
  | t _ => cases hx
  | s _ => cases hx
  | r i =>
    obtain ⟨a, ha, e⟩ := rv
    have hx : (match m[i]? with | some (.lst xs) => (allD xs).map .list | _ => none) = some d := hx
    cases ho : m[i]? with
    | none => rw [ho] at hx; cases hx
    | some o =>
      cases o with
      | ins C fs => rw [ho] at hx; cases hx
      | dct _ => rw [ho] at hx; cases hx
      | lst ys =>
        rw [ho] at hx
        have hx : (allD ys).map .list = some d := hx
        cases hy : allD ys with
        | none => rw [hy] at hx; cases hx
        | some es =>
          rw [hy] at hx; cases hx
          have ey := allD_some hy
          subst ey
          obtain ⟨a', u, h1, h2, vs, eu, rs⟩ := hk.obj i _ ho
          rw [ha] at h1; cases h1
          subst eu e
          exact Da.lst h2 (daAll_mono hk.sub (rvs_data rs))
end
section
variable {ι : Type} {X : ι → Cx} {P : Program} {w : World} {K : PySem.W.Frag} {mg : Str → Option Value} {base : Heap} {N : List Str} {sc : Scope} {fv : Str → Bool} {k : Nat} {ρ : Ro} {m : Mm} {Q Q' : QV} {D : Ed} {a b c e tg it elt : Expr} {pos p : Pos} {x y z : MV}
theorem we_ty (F : Fam X P w K mg base N sc fv k) {nm : Str} {T : String} (hm : mg nm = none) (hv : bootBuiltins nm = some (.type T)) (q : Q (.t T) m) (hg : sc.names.lookup nm = some .globalImplicit := by rfl) (hn : nm ≠ "__name__" := by decide) (hd : (nm == ("__debug__" : Str)) = false := by decide) : We X K (.Name nm pos) ρ m Q := fun π G σ H R hk sk wv =>
  ⟨_, fun j => pe_bltn (v := .ty T) (F.gl hg j) (by rw [F.cM]; exact hm) hv rfl hn hd, wv (.ty T) (.t T) π G H m Xt.refl hk rfl q⟩
/-! ints -/
theorem opw_I0 {f : Value → Value → Sem Value} {g : Int → Int → V} {i j : Int} {d : PyData} (h : ∀ j, OpR (X j) f (rI0 g)) (hd : ∀ G, Da K G (g i j) d) (q : Q (.d d) m) : OpW X K f (.d (.int i)) (.d (.int j)) m Q := fun π G H R u v hk ru rv wv =>
  ⟨_, h, i, j, Da.intI ru, Da.intI rv, wv _ (.d d) π G H m Xt.refl hk (hd G) q⟩
theorem opw_I {f : Value → Value → Sem Value} {C : Int → Int → Prop} {g : Int → Int → V} {i j : Int} {d : PyData} (h : ∀ j, OpR (X j) f (rI C g)) (hc : C i j) (hd : ∀ G, Da K G (g i j) d) (q : Q (.d d) m) : OpW X K f (.d (.int i)) (.d (.int j)) m Q := fun π G H R u v hk ru rv wv =>
  ⟨_, h, i, j, Da.intI ru, Da.intI rv, hc, wv _ (.d d) π G H m Xt.refl hk (hd G) q⟩
theorem o_add {i j : Int} (q : Q (.d (.int (i + j))) m) : OpW X K (binaryOp .Add) (.d (.int i)) (.d (.int j)) m Q := opw_I0 (fun _ => op_add) (fun _ => .int _) q
theorem o_sub {i j : Int} (q : Q (.d (.int (i - j))) m) : OpW X K (binaryOp .Sub) (.d (.int i)) (.d (.int j)) m Q := opw_I0 (fun _ => op_sub) (fun _ => .int _) q
theorem o_mul {i j : Int} (hc : CMul i j) (q : Q (.d (.int (i * j))) m) : OpW X K (binaryOp .Mult) (.d (.int i)) (.d (.int j)) m Q := opw_I (fun _ => op_mul) hc (fun _ => .int _) q
theorem o_mod {i j : Int} (hc : 0 < j) (q : Q (.d (.int (i % j))) m) : OpW X K (binaryOp .Mod) (.d (.int i)) (.d (.int j)) m Q := opw_I (fun _ => op_mod) hc (fun _ => .int _) q
theorem o_fdiv {i j : Int} (hc : CDiv i j) (q : Q (.d (.int (i / j))) m) : OpW X K (binaryOp .FloorDiv) (.d (.int i)) (.d (.int j)) m Q := opw_I (fun _ => op_fdiv) hc (fun _ => .int _) q
theorem o_pow {i j : Int} (hc : CPow i j) (q : Q (.d (.int (i ^ j.toNat))) m) : OpW X K (binaryOp .Pow) (.d (.int i)) (.d (.int j)) m Q := opw_I (fun _ => op_pow) hc (fun _ => .int _) q
theorem o_lt {i j : Int} (q : Q (.d (.bool (decide (i < j)))) m) : OpW X K (compareOp .Lt) (.d (.int i)) (.d (.int j)) m Q := opw_I0 (fun _ => op_lt) (fun _ => .bl _) q
theorem o_le {i j : Int} (q : Q (.d (.bool (decide (i ≤ j)))) m) : OpW X K (compareOp .LtE) (.d (.int i)) (.d (.int j)) m Q := opw_I0 (fun _ => op_le) (fun _ => .bl _) q
theorem o_gt {i j : Int} (q : Q (.d (.bool (decide (j < i)))) m) : OpW X K (compareOp .Gt) (.d (.int i)) (.d (.int j)) m Q := opw_I0 (fun _ => op_gt) (fun _ => .bl _) q
theorem o_ge {i j : Int} (q : Q (.d (.bool (decide (j ≤ i)))) m) : OpW X K (compareOp .GtE) (.d (.int i)) (.d (.int j)) m Q := opw_I0 (fun _ => op_ge) (fun _ => .bl _) q
/-! data -/
theorem un_of {k : Nat} {A : Around} (hr : Room k A) {n : Nat} (h : n ≤ 150) : A.units + n < cLine := by have := hr.un; omega
def rEqP (K : PySem.W.Frag) (neg : Bool) : R2 := fun x y H Q => ∃ d e, Da K H x d ∧ Da K H y e ∧ d.plain = true ∧ e.plain = true ∧ min d.depth e.depth ≤ 100 ∧ Q (.bl (if neg then !PyData.eqv d e else PyData.eqv d e)) H
theorem op_eqP {X : Cx} {k : Nat} (hr : Room k X.A) : OpR X (compareOp .Eq) (rEqP X.K false) := by
  intro pins s σ H x y v u Q I rx ry h
  obtain ⟨d, e, hd, he, sd, se, hm, q⟩ := h
  obtain ⟨as, r1⟩ := da_reads I hd v rx
  obtain ⟨bs, r2⟩ := da_reads I he u ry
  exact PySem.SeqAt.eq_plain r1 r2 sd se (un_of hr (by omega)) ⟨.bl _, H, I, rfl, q⟩
theorem op_neP {X : Cx} {k : Nat} (hr : Room k X.A) : OpR X (compareOp .NotEq) (rEqP X.K true) := by
  intro pins s σ H x y v u Q I rx ry h
  obtain ⟨d, e, hd, he, sd, se, hm, q⟩ := h
  obtain ⟨as, r1⟩ := da_reads I hd v rx
  obtain ⟨bs, r2⟩ := da_reads I he u ry
  exact PySem.SeqAt.ne_plain r1 r2 sd se (un_of hr (by omega)) ⟨.bl _, H, I, rfl, q⟩
theorem o_eq (F : Fam X P w K mg base N sc fv k) {d e : PyData} (hx : datOf m x = some d) (hy : datOf m y = some e) (h1 : d.plain = true) (h2 : e.plain = true) (hm : min d.depth e.depth ≤ 100) (q : Q (.d (.bool (PyData.eqv d e))) m) : OpW X K (compareOp .Eq) x y m Q := fun π G H R u v hk ru rv wv =>
  ⟨rEqP K false, fun j => F.cK j ▸ op_eqP (F.room j), d, e, dat_real hk ru hx, dat_real hk rv hy, h1, h2, hm, wv _ (.d (.bool _)) π G H m Xt.refl hk (Da.bl _) q⟩
theorem o_ne (F : Fam X P w K mg base N sc fv k) {d e : PyData} (hx : datOf m x = some d) (hy : datOf m y = some e) (h1 : d.plain = true) (h2 : e.plain = true) (hm : min d.depth e.depth ≤ 100) (q : Q (.d (.bool (!PyData.eqv d e))) m) : OpW X K (compareOp .NotEq) x y m Q := fun π G H R u v hk ru rv wv =>
  ⟨rEqP K true, fun j => F.cK j ▸ op_neP (F.room j), d, e, dat_real hk ru hx, dat_real hk rv hy, h1, h2, hm, wv _ (.d (.bool _)) π G H m Xt.refl hk (Da.bl _) q⟩
theorem eqv_int (i j : Int) : PyData.eqv (.int i) (.int j) = decide (i = j) := by
  unfold PyData.eqv; by_cases h : i = j <;> simp [h]
theorem o_eqI (F : Fam X P w K mg base N sc fv k) {i j : Int} (q : Q (.d (.bool (decide (i = j)))) m) : OpW X K (compareOp .Eq) (.d (.int i)) (.d (.int j)) m Q := o_eq F rfl rfl rfl rfl (by simp [PyData.depth]) (by rw [eqv_int]; exact q)
theorem o_neI (F : Fam X P w K mg base N sc fv k) {i j : Int} (q : Q (.d (.bool (!decide (i = j)))) m) : OpW X K (compareOp .NotEq) (.d (.int i)) (.d (.int j)) m Q := o_ne F rfl rfl rfl rfl (by simp [PyData.depth]) (by rw [eqv_int]; exact q)
theorem o_isN (q : Q (.d (.bool (match x with | .d .none => true | _ => false))) m) : OpW X K (compareOp .Is) x (.d .none) m Q := fun π G H R u v hk ru rv wv => by
  refine ⟨_, fun _ => op_isN, Da.nonI rv, wv _ (.d (.bool _)) π G H m Xt.refl hk ?_ q⟩
  cases x with
  | d y => cases ru <;> exact Da.bl _
  | r i => obtain ⟨a, _, rfl⟩ := ru; exact Da.bl _
  | t n => obtain rfl := ru; exact Da.bl _
  | s n => obtain ⟨a, rfl, _⟩ := ru; exact Da.bl _
theorem o_notN (q : Q (.d (.bool (match x with | .d .none => false | _ => true))) m) : OpW X K (compareOp .IsNot) x (.d .none) m Q := fun π G H R u v hk ru rv wv => by
  refine ⟨_, fun _ => op_notN, Da.nonI rv, wv _ (.d (.bool _)) π G H m Xt.refl hk ?_ q⟩
  cases x with
  | d y => cases ru <;> exact Da.bl _
  | r i => obtain ⟨a, _, rfl⟩ := ru; exact Da.bl _
  | t n => obtain rfl := ru; exact Da.bl _
  | s n => obtain ⟨a, rfl, _⟩ := ru; exact Da.bl _
def rCmp (K : PySem.W.Frag) (f : PyData → PyData → Bool) : R2 := fun x y H Q => ∃ d e, Da K H x d ∧ Da K H y e ∧ PySem.W.alike d e = true ∧ d ≠ .none ∧ min d.depth e.depth ≤ 100 ∧ Q (.bl (f d e)) H
theorem op_leP {X : Cx} {k : Nat} (hr : Room k X.A) : OpR X (compareOp .LtE) (rCmp X.K fun d e => !PySem.W.dataLt e d) := by
  intro pins s σ H x y v u Q I rx ry h
  obtain ⟨d, e, hd, he, al, hn, hm, q⟩ := h
  obtain ⟨as, r1⟩ := da_reads I hd v rx
  obtain ⟨bs, r2⟩ := da_reads I he u ry
  exact PySem.W.le_data r1 r2 al hn (un_of hr (by omega)) ⟨.bl _, H, I, rfl, q⟩
theorem o_leD (F : Fam X P w K mg base N sc fv k) {d e : PyData} (hx : datOf m x = some d) (hy : datOf m y = some e) (h1 : PySem.W.alike d e = true) (h2 : d ≠ .none) (hm : min d.depth e.depth ≤ 100) (q : Q (.d (.bool (!PySem.W.dataLt e d))) m) : OpW X K (compareOp .LtE) x y m Q := fun π G H R u v hk ru rv wv =>
  ⟨rCmp K _, fun j => F.cK j ▸ op_leP (F.room j), d, e, dat_real hk ru hx, dat_real hk rv hy, h1, h2, hm, wv _ (.d (.bool _)) π G H m Xt.refl hk (Da.bl _) q⟩
def rInP (K : PySem.W.Frag) : R2 := fun x y H Q => ∃ d xs, Da K H x d ∧ (Da K H y (.list xs) ∨ Da K H y (.tuple xs)) ∧ PyData.plainAll xs = true ∧ d.plain = true ∧ min (PyData.depthAll xs) d.depth ≤ 100 ∧ Q (.bl (xs.any fun z => PyData.eqv z d)) H
theorem op_inP {X : Cx} {k : Nat} (hr : Room k X.A) : OpR X (compareOp .In) (rInP X.K) := by
  intro pins s σ H x y v u Q I rx ry h
  obtain ⟨d, xs, hd, he, sd, se, hm, q⟩ := h
  obtain ⟨as, r1⟩ := da_reads I hd v rx
  rcases he with he | he
  · obtain ⟨bs, r2⟩ := da_reads I he u ry
    exact PySem.SeqAt.in_list_data r2 r1 sd se (by have := un_of hr (n := 140) (by omega); omega) ⟨.bl _, H, I, rfl, q⟩
  · obtain ⟨bs, r2⟩ := da_reads I he u ry
    exact PySem.SeqAt.in_tuple_data r2 r1 sd se (by have := un_of hr (n := 140) (by omega); omega) ⟨.bl _, H, I, rfl, q⟩
theorem o_in (F : Fam X P w K mg base N sc fv k) {d : PyData} {xs : List PyData} (hx : datOf m x = some d) (hy : datOf m y = some (.list xs) ∨ datOf m y = some (.tuple xs)) (h1 : PyData.plainAll xs = true) (h2 : d.plain = true) (hm : min (PyData.depthAll xs) d.depth ≤ 100) (q : Q (.d (.bool (xs.any fun z => PyData.eqv z d))) m) : OpW X K (compareOp .In) x y m Q := fun π G H R u v hk ru rv wv =>
  ⟨rInP K, fun j => F.cK j ▸ op_inP (F.room j), d, xs, dat_real hk ru hx, hy.imp (dat_real hk rv) (dat_real hk rv), h1, h2, hm, wv _ (.d (.bool _)) π G H m Xt.refl hk (Da.bl _) q⟩
/-! lists -/
/-- a list, as data or in the store -/
def lstOf (m : Mm) : MV → Option (List MV)
  | .d (.list ds) => some (ds.map .d)
  | .r i => match m[i]? with
    | some (.lst xs) => some xs
    | _ => none
  | _ => none
theorem lst_real {π : List Addr} {G H : Hp} {v : V} {xs : List MV} (hk : Hk K π G H m) (rv : Rv K G π v x) (hx : lstOf m x = some xs) : ∃ a vs, v = .ref a ∧ H a = some (.lst vs) ∧ Rvs K G π vs xs := by
  cases x with
  | d y =>
    cases y with
    | list ds =>
      cases hx
      obtain ⟨a, vs, e, h1, h2⟩ := Da.lstI rv
      exact ⟨a, vs, e, hk.sub _ _ h1, data_rvs h2⟩
    | tuple ds => cases hx
    | none => cases hx
    | bool _ => cases hx
    | int _ => cases hx
    | str _ => cases hx
    | dict _ => cases hx
  | t _ => cases hx
  | s _ => cases hx
  | r i =>
    obtain ⟨a, ha, e⟩ := rv
    have hx : (match m[i]? with | some (.lst xs) => some xs | _ => none) = some xs := hx
    cases ho : m[i]? with
    | none => rw [ho] at hx; cases hx
    | some o =>
      cases o with
      | ins C fs => rw [ho] at hx; cases hx
      | dct _ => rw [ho] at hx; cases hx
      | lst ys =>
        rw [ho] at hx
        cases hx
        obtain ⟨a', u, h1, h2, vs, eu, rs⟩ := hk.obj i _ ho
        rw [ha] at h1; cases h1
        subst eu
        exact ⟨a, vs, e, h2, rs⟩
theorem paired_append {α β : Type} {F : α → β → Prop} : ∀ {as : List α} {bs : List β} {cs : List α} {ds : List β}, Paired F as bs → Paired F cs ds → Paired F (as ++ cs) (bs ++ ds)
  | _, _, _, _, .nil, h => h
  | _, _, _, _, .cons r t, h => .cons r (paired_append t h)
theorem o_cat {xs ys : List MV} (hx : lstOf m x = some xs) (hy : lstOf m y = some ys) (hl : xs.length + ys.length ≤ 100000) (q : NewL (xs ++ ys) m Q) : OpW X K (binaryOp .Add) x y m Q := fun π G H R u v hk ru rv wv => by
  obtain ⟨a, vs, e1, h1, r1⟩ := lst_real hk ru hx
  obtain ⟨b, ws, e2, h2, r2⟩ := lst_real hk rv hy
  exact ⟨_, fun _ => op_cat, a, b, vs, ws, e1, e2, h1, h2, by rw [Paired.length r1, Paired.length r2]; exact Nat.le_trans hl (by decide), fun p hp => newl hk hp (paired_append r1 r2) q wv⟩
theorem o_rep {xs : List MV} {n : Int} (hx : lstOf m x = some xs) (h0 : 0 ≤ n) (h1 : n ≤ 100000) (hl : xs.length * n.toNat ≤ 100000) (q : NewL (List.replicate n.toNat xs).flatten m Q) : OpW X K (binaryOp .Mult) x (.d (.int n)) m Q := fun π G H R u v hk ru rv wv => by
  obtain ⟨a, vs, e1, h2, r1⟩ := lst_real hk ru hx
  refine ⟨_, fun _ => op_rep, a, n, vs, e1, Da.intI rv, h2, by omega, by omega, by rw [Paired.length r1]; exact Nat.le_trans hl (by decide), fun p hp => newl hk hp ?_ q wv⟩
  clear hl h0 h1 q
  induction n.toNat with
  | zero => exact .nil
  | succ n ih => rw [List.replicate_succ, List.replicate_succ, List.flatten_cons, List.flatten_cons]; exact paired_append r1 ih
/-! indexes, slices -/
theorem ix_w (F : Fam X P w K mg base N sc fv k) {xs : List MV} {i : Int} (hx : seqOf m x = some xs) (hi : atI xs i = some y) (q : Q y m) : IxW X K x (.d (.int i)) m Q := fun π G H R u v hk ru rv wv => by
  obtain ⟨a, vs, e, hs, rs⟩ := seq_real hk ru hx
  have h2 : ∃ v, atI vs i = some v ∧ Rv K G π v y := by
    unfold atI at hi ⊢
    rw [Paired.length rs]
    cases e : ixN xs.length i with
    | none => rw [e] at hi; cases hi
    | some n => rw [e] at hi; exact paired_getR rs hi
  obtain ⟨v', h3, h4⟩ := h2
  refine ⟨rIx K, fun j => F.cK j ▸ ix_seq, ?_⟩
  cases hk' : knd x with
  | true => rw [hk'] at hs; exact .inl ⟨a, vs, i, v', e, Da.intI rv, hs, h3, wv v' y π G H m Xt.refl hk h4 q⟩
  | false => rw [hk'] at hs; exact .inr (.inl ⟨a, vs, i, v', e, Da.intI rv, hs, h3, wv v' y π G H m Xt.refl hk h4 q⟩)
def cutM {α : Type} (xs : List α) (lo hi : Option Int) : List α := (xs.drop (HT.sIx xs.length 0 lo)).take (HT.sIx xs.length xs.length hi - HT.sIx xs.length 0 lo)
theorem paired_drop {α β : Type} {F : α → β → Prop} : ∀ {as : List α} {bs : List β} (n : Nat), Paired F as bs → Paired F (as.drop n) (bs.drop n)
  | _, _, 0, h => h
  | _, _, _ + 1, .nil => .nil
  | _, _, n + 1, .cons _ t => paired_drop n t
theorem paired_take {α β : Type} {F : α → β → Prop} : ∀ {as : List α} {bs : List β} (n : Nat), Paired F as bs → Paired F (as.take n) (bs.take n)
  | _, _, 0, _ => .nil
  | _, _, _ + 1, .nil => .nil
  | _, _, n + 1, .cons r t => .cons r (paired_take n t)
/-- an end of a slice: nothing, or an int -/
def Wo (X : ι → Cx) (K : PySem.W.Frag) (e : Option Expr) (ρ : Ro) (m : Mm) (Q : Option Int → Mm → Prop) : Prop := match e with
  | none => Q none m
  | some e => We X K e ρ m fun x m1 => ∃ i : Int, x = .d (.int i) ∧ Q (some i) m1
def ToOf (X : ι → Cx) (e : Option Expr) : TO := fun σ H Q => ∃ t, (∀ j, PO (X j) e t) ∧ t σ H Q
theorem toOf (X : ι → Cx) (e : Option Expr) (j : ι) : PO (X j) e (ToOf X e) := ⟨fun pins s σ H Q I ⟨t, p, h⟩ => (p j).run pins s σ H Q I h⟩
theorem wo_reads {o : Option Expr} {Q : Option Int → Mm → Prop} (h : Wo X K o ρ m Q) {π : List Addr} {G H : Hp} {σ : St} {R : Option Int → Hp → Prop} (hk : Hk K π G H m) (sk : Sk K π G σ ρ) (wr : ∀ i π' G' H' m', Xt π G H π' G' H' → Hk K π' G' H' m' → Q i m' → R i H') : ToOf X o σ H R := by
  cases o with
  | none => exact ⟨_, fun _ => po_none, wr none π G H m Xt.refl hk h⟩
  | some e => exact ⟨_, fun j => po_some (teOf X e j), h π G σ H _ hk sk fun v x π1 G1 H1 m1 e1 hk1 rv ⟨i, ex, q⟩ => by
      subst ex
      exact ⟨i, Da.intI rv, wr (some i) π1 G1 H1 m1 e1 hk1 q⟩⟩
/-- a slice of a tuple (not the whole) or of a list -/
theorem we_slice (F : Fam X P w K mg base N sc fv k) {lo hi : Option Expr} {p2 : Pos} (h : We X K e ρ m fun x m1 => Wo X K lo ρ m1 fun l m2 => Wo X K hi ρ m2 fun u m3 =>
      (∃ ds, x = .d (.tuple ds) ∧ ¬ (HT.sIx ds.length 0 l = 0 ∧ HT.sIx ds.length ds.length u = ds.length) ∧ Q (.d (.tuple (cutM ds l u))) m3) ∨ (∃ xs, lstOf m3 x = some xs ∧ NewL (cutM xs l u) m3 Q)) : We X K (.Subscript e (.Slice lo hi none p2) pos) ρ m Q := fun π G σ H R hk sk wv => by
  refine ⟨tSl (fun x lo hi H Q => rSlT K x lo hi H Q ∨ rSlL K x lo hi H Q) (TeOf X e) (ToOf X lo) (ToOf X hi), fun j => F.cK j ▸ pe_slice (sl_tup.or sl_list) (teOf X e j) (toOf X lo j) (toOf X hi j), ?_⟩
  refine h π G σ H _ hk sk fun v x π1 G1 H1 m1 e1 hk1 rv q1 => wo_reads q1 hk1 (sk.xt e1) fun l π2 G2 H2 m2 e2 hk2 q2 => wo_reads q2 hk2 (sk.xt (e1.trans e2)) fun u π3 G3 H3 m3 e3 hk3 q3 => ?_
  have e13 := (e1.trans e2).trans e3
  have rv3 := rv.xt (e2.trans e3)
  rcases q3 with ⟨ds, ex, hn, q⟩ | ⟨xs, hx, q⟩
  · subst ex
    obtain ⟨a, vs, ev, ht, dt⟩ := Da.tupI rv3
    have hl := dt.len
    refine .inl ⟨a, vs, ev, Same.tupq hk3.sub ht, by rw [hl]; exact hn, fun p hp => newt hk3 hp ?_ q (wv.xt e13)⟩
    unfold cutV cutM
    rw [hl]
    exact (dt.drop _).take _
  · obtain ⟨a, vs, ev, ht, rs⟩ := lst_real hk3 rv3 hx
    refine .inr ⟨a, vs, ev, SqL.of ht, fun p hp => newl hk3 hp ?_ q (wv.xt e13)⟩
    unfold cutV cutM
    rw [Paired.length rs]
    exact paired_take _ (paired_drop _ rs)
/-- a slice of the script -/
theorem we_sliceS (F : Fam X P w K mg base N sc fv k) {lo hi : Option Expr} {p2 : Pos} (h : We X K e ρ m fun x m1 => Wo X K lo ρ m1 fun l m2 => Wo X K hi ρ m2 fun u m3 => ∃ ns : List Int, x = .s ns ∧ NewL ((cutM ns l u).map fun i => .d (.int i)) m3 Q) : We X K (.Subscript e (.Slice lo hi none p2) pos) ρ m Q := fun π G σ H R hk sk wv => by
  refine ⟨tSl (rSlL K) (TeOf X e) (ToOf X lo) (ToOf X hi), fun j => F.cK j ▸ pe_slice sl_list (teOf X e j) (toOf X lo j) (toOf X hi j), ?_⟩
  refine h π G σ H _ hk sk fun v x π1 G1 H1 m1 e1 hk1 rv q1 => wo_reads q1 hk1 (sk.xt e1) fun l π2 G2 H2 m2 e2 hk2 q2 => wo_reads q2 hk2 (sk.xt (e1.trans e2)) fun u π3 G3 H3 m3 e3 hk3 ⟨ns, ex, q⟩ => ?_
  subst ex
  obtain ⟨a, ev, hs⟩ := rv.xt (e2.trans e3)
  refine ⟨a, _, ev, hk3.sub.seq hs, fun p hp => newl hk3 hp ?_ q (wv.xt ((e1.trans e2).trans e3))⟩
  have ec : cutV (ns.map V.int) l u = (cutM ns l u).map V.int := by
    unfold cutV cutM
    rw [List.length_map, List.map_take, List.map_drop]
  rw [ec]
  generalize cutM ns l u = xs
  induction xs with
  | nil => exact .nil
  | cons i xs ih => exact .cons (Da.int i) ih
end
end Wn
set_option Elab.async false
set_option linter.all false
set_option maxRecDepth 100000
set_option maxHeartbeats 2000000
set_option autoImplicit false
namespace Wn
open PySem L2
section
variable {ι : Type} {X : ι → Cx} {P : Program} {w : World} {K : PySem.W.Frag} {mg : Str → Option Value} {base : Heap} {N : List Str} {sc : Scope} {fv : Str → Bool} {k : Nat} {ρ : Ro} {m : Mm} {Q Q' : QV} {D : Ed} {a b c e tg it elt : Expr} {pos p : Pos} {x y z : MV}
theorem rvs1 {π : List Addr} {G : Hp} {vs : List V} (h : Rvs K G π vs [x]) : ∃ v, vs = [v] ∧ Rv K G π v x := by
  cases h with
  | cons r t => cases t; exact ⟨_, rfl, r⟩
theorem rvs2 {π : List Addr} {G : Hp} {vs : List V} (h : Rvs K G π vs [x, y]) : ∃ v u, vs = [v, u] ∧ Rv K G π v x ∧ Rv K G π u y := by
  cases h with
  | cons r t => obtain ⟨u, e, ru⟩ := rvs1 t; subst e; exact ⟨_, u, rfl, r, ru⟩
theorem c_len (F : Fam X P w K mg base N sc fv k) {xs : List MV} (hx : seqOf m x = some xs) (q : Q (.d (.int (xs.length : Nat))) m) : CaW X K (.builtin "len") [x] m Q := fun π G H R vs hk rs wv => by
  obtain ⟨v, rfl, rv⟩ := rvs1 rs
  obtain ⟨a, us, e, hs, ru⟩ := seq_real hk rv hx
  refine ⟨fun xs H Q => ∃ p ys, xs = [.ref p] ∧ (SqL K H p ys ∨ SqT K H p ys) ∧ Q (.int ys.length) H, fun j => F.cK j ▸ call_len_seq, a, us, by rw [e], ?_, ?_⟩
  · cases hk' : knd x with
    | true => rw [hk'] at hs; exact .inl hs
    | false => rw [hk'] at hs; exact .inr hs
  · rw [Paired.length ru]
    exact wv _ (.d (.int _)) π G H m Xt.refl hk (Da.int _) q
theorem c_abs {i : Int} (q : Q (.d (.int (if i < 0 then -i else i))) m) : CaW X K (.builtin "abs") [.d (.int i)] m Q := fun π G H R vs hk rs wv => by
  obtain ⟨v, rfl, rv⟩ := rvs1 rs
  exact ⟨_, fun _ => call_abs, i, by rw [Da.intI rv], wv _ (.d (.int _)) π G H m Xt.refl hk (Da.int _) q⟩
theorem c_min2 (F : Fam X P w K mg base N sc fv k) {i j : Int} (q : Q (.d (.int (if j < i then j else i))) m) : CaW X K (.builtin "min") [.d (.int i), .d (.int j)] m Q := fun π G H R vs hk rs wv => by
  obtain ⟨v, u, rfl, rv, ru⟩ := rvs2 rs
  exact ⟨_, fun t => call_min2 (F.calm t), i, j, by rw [Da.intI rv, Da.intI ru], wv _ (.d (.int _)) π G H m Xt.refl hk (Da.int _) q⟩
theorem c_intB {b : Bool} (q : Q (.d (.int (if b then 1 else 0))) m) : CaW X K (.type "int") [.d (.bool b)] m Q := fun π G H R vs hk rs wv => by
  obtain ⟨v, rfl, rv⟩ := rvs1 rs
  exact ⟨_, fun _ => call_int1, .inr ⟨b, by rw [Da.blI rv], wv _ (.d (.int _)) π G H m Xt.refl hk (Da.int _) q⟩⟩
theorem c_tup (F : Fam X P w K mg base N sc fv k) {ds : List PyData} (hx : seqOf m x = some (ds.map .d)) (q : Q (.d (.tuple ds)) m) : CaW X K (.type "tuple") [x] m Q := fun π G H R vs hk rs wv => by
  obtain ⟨v, rfl, rv⟩ := rvs1 rs
  obtain ⟨a, us, e, hs, ru⟩ := seq_real hk rv hx
  refine ⟨fun xs H Q => ∃ p ys, xs = [.ref p] ∧ ((SqL K H p ys ∧ ∀ l, H l = none → Q (.ref l) (upd H l (.tup ys))) ∨ (SqT K H p ys ∧ Q (.ref p) H)), fun j => F.cK j ▸ call_tuple_of, a, us, by rw [e], ?_⟩
  cases hk' : knd x with
  | true => rw [hk'] at hs; exact .inl ⟨hs, fun p hp => newt hk hp (rvs_data ru) q wv⟩
  | false =>
    rw [hk'] at hs
    refine .inr ⟨hs, ?_⟩
    rw [← e]
    refine wv v (.d (.tuple ds)) π G H m Xt.refl hk ?_ q
    cases x with
    | r i => cases hk'
    | t i => cases hk'
    | s i => cases hk'
    | d y =>
      cases y with
      | tuple es =>
        have z : es.map MV.d = ds.map MV.d := Option.some.inj hx
        have z2 : es = ds := by
          have := congrArg allD z
          rw [allD_map, allD_map] at this
          exact Option.some.inj this
        subst z2
        exact rv
      | list _ => cases hk'
      | none => cases hk'
      | bool _ => cases hk'
      | int _ => cases hk'
      | str _ => cases hk'
      | dict _ => cases hk'
theorem c_lst (F : Fam X P w K mg base N sc fv k) {xs : List MV} (hx : seqOf m x = some xs) (q : NewL xs m Q) : CaW X K (.type "list") [x] m Q := fun π G H R vs hk rs wv => by
  obtain ⟨v, rfl, rv⟩ := rvs1 rs
  obtain ⟨a, us, e, hs, ru⟩ := seq_real hk rv hx
  refine ⟨fun xs H Q => ∃ p ys, xs = [.ref p] ∧ (SqL K H p ys ∨ SqT K H p ys) ∧ ∀ l, H l = none → Q (.ref l) (upd H l (.lst ys)), fun j => F.cK j ▸ call_list_of, a, us, by rw [e], ?_, fun p hp => newl hk hp ru q wv⟩
  cases hk' : knd x with
  | true => rw [hk'] at hs; exact .inl hs
  | false => rw [hk'] at hs; exact .inr hs
/-- list(range(e)) -/
theorem we_listRg (F : Fam X P w K mg base N sc fv k) {p2 pos2 : Pos} (hl : mg "list" = none) (hr : mg "range" = none) (h : We X K e ρ m fun x m1 => ∃ n : Int, x = .d (.int n) ∧ 0 ≤ n ∧ n ≤ 100000 ∧ NewL (rangeM 0 n.toNat) m1 Q)
    (hgl : sc.names.lookup ("list" : Str) = some .globalImplicit := by rfl) (hgr : sc.names.lookup ("range" : Str) = some .globalImplicit := by rfl) (na : ∀ env : Env, starEach [e] env = (false, eval e env) :: starEach [] env := by intro _; rfl)
    (na2 : ∀ env : Env, starEach [Expr.Call (.Name "range" p2) [e] [] pos2] env = (false, eval (Expr.Call (.Name "range" p2) [e] [] pos2) env) :: starEach [] env := by intro _; rfl) : We X K (.Call (.Name "list" p) [.Call (.Name "range" p2) [e] [] pos2] [] pos) ρ m Q := fun π G σ H R hk sk wv =>
  ⟨_, fun j => pe_listRg (F.calm j) (F.gl hgl j) (by rw [F.cM]; exact hl) (prg_1 (F.gl hgr j) (by rw [F.cM]; exact hr) (teOf X e j) (na _)) (na2 _), h π G σ H _ hk sk fun v x π1 G1 H1 m1 e1 hk1 rv ⟨n, ex, n0, n1, q⟩ => by
    subst ex
    refine ⟨n, Da.intI rv, RgOk.of_le (by omega) (by omega) (by omega) n0, fun q' hq => newl hk1 hq ?_ q (wv.xt e1)⟩
    have z : ∀ l : List Nat, Rvs K G1 π1 (l.map fun i => V.int (0 + (i : Nat))) (l.map fun i => MV.d (.int (0 + (i : Nat)))) := by
      intro l
      induction l with
      | nil => exact .nil
      | cons a l ih => exact .cons (Da.int _) ih
    have e0 : (n - 0).toNat = n.toNat := by omega
    unfold rgV rangeM
    rw [e0]
    exact z _⟩
/-! isinstance -/
def isaD (T : String) (d : PyData) : Option Bool := match T with
  | "int" => some d.isInt
  | "bool" => some d.isBool
  | "tuple" => some d.isTuple
  | "str" => some d.isStr
  | "list" => some d.isList
  | "dict" => some d.isDict
  | _ => none
theorem cr_isa {X : Cx} {T : String} : CallR X (.builtin "isinstance") (fun xs H Q => ∃ x d b, xs = [x, .ty T] ∧ Da X.K H x d ∧ isaD T d = some b ∧ Q (.bl b) H) := by
  intro pins s σ H xs us Q I r h
  obtain ⟨x, d, b, rfl, hd, hb, q⟩ := h
  cases r with
  | cons r1 t =>
    rename_i v us
    cases t with
    | cons r2 t =>
      cases t
      cases r2
      obtain ⟨as, rd⟩ := da_reads I hd v r1
      unfold isaD at hb
      split at hb
      · cases hb; exact PySem.W.isinstance_int_data rd fun tk _ => ⟨.bl _, H, I.tok _, rfl, q⟩
      · cases hb; exact PySem.W.isinstance_bool_data rd fun tk _ => ⟨.bl _, H, I.tok _, rfl, q⟩
      · cases hb; exact PySem.W.isinstance_tuple_data rd fun tk _ => ⟨.bl _, H, I.tok _, rfl, q⟩
      · cases hb; exact PySem.W.isinstance_str_data rd fun tk _ => ⟨.bl _, H, I.tok _, rfl, q⟩
      · cases hb; exact PySem.W.isinstance_list_data rd fun tk _ => ⟨.bl _, H, I.tok _, rfl, q⟩
      · cases hb; exact PySem.W.isinstance_dict_data rd fun tk _ => ⟨.bl _, H, I.tok _, rfl, q⟩
      · cases hb
theorem c_isa (F : Fam X P w K mg base N sc fv k) {T : String} {d : PyData} {b : Bool} (hx : datOf m x = some d) (hb : isaD T d = some b) (q : Q (.d (.bool b)) m) : CaW X K (.builtin "isinstance") [x, .t T] m Q := fun π G H R vs hk rs wv => by
  obtain ⟨v, u, rfl, rv, ru⟩ := rvs2 rs
  refine ⟨fun xs H Q => ∃ x d b, xs = [x, .ty T] ∧ Da K H x d ∧ isaD T d = some b ∧ Q (.bl b) H, fun j => F.cK j ▸ cr_isa, v, d, b, ?_, dat_real hk rv hx, hb, wv _ (.d (.bool b)) π G H m Xt.refl hk (Da.bl b) q⟩
  rw [show u = V.ty T from ru]
/-! sorted -/
theorem each_vals {X : Cx} {pins : List (Addr × Obj)} {σ : St} {G H : Hp} {s : Shared} (I : Inv X pins σ H s) (sg : Same G H) : ∀ {vs : List V} {ds : List PyData} {us : List Value}, DaAll X.K G vs ds → Vals vs us →
    PySem.W.EachIs (fun (u : Value) (d : PyData) => ∃ x : V, RelV x u ∧ Da X.K G x d) us ds ∧ PySem.W.EachIs (fun (u : Value) (d : PyData) => ∃ as, Reads s.heap u d as) us ds
  | _, _, _, .nil, .nil => ⟨.nil, .nil⟩
  | _, _, _, .cons a t, .cons r rs => let ⟨h1, h2⟩ := each_vals I sg t rs; ⟨.cons ⟨_, r, a⟩ h1, .cons (da_reads I (da_mono sg a) _ r) h2⟩
theorem vals_each {K : PySem.W.Frag} {G : Hp} : ∀ {us : List Value} {ds : List PyData}, PySem.W.EachIs (fun (u : Value) (d : PyData) => ∃ x : V, RelV x u ∧ Da K G x d) us ds → ∃ vs : List V, Vals vs us ∧ DaAll K G vs ds
  | _, _, .nil => ⟨[], .nil, .nil⟩
  | _, _, .cons ⟨x, r, a⟩ t => let ⟨vs, h1, h2⟩ := vals_each t; ⟨x :: vs, .cons r h1, .cons a h2⟩
def sortD (ds : List PyData) : List PyData := ds.mergeSort (PySem.W.dataLe false id)
def rSortD (K : PySem.W.Frag) : List V → Hp → VK → Prop := fun vs H Q => ∃ G a ws ds, vs = [V.ref a] ∧ Same G H ∧ H a = some (.lst ws) ∧ DaAll K G ws ds ∧ PySem.W.AllAlike ds ∧ PySem.W.Sortable ds ∧ ds.length ≤ 100000 ∧ (∀ d ∈ ds, d.depth ≤ 100) ∧
  ∀ p os, H p = none → DaAll K G os (sortD ds) → Q (.ref p) (upd H p (.lst os))
theorem cr_sortD {X : Cx} {k : Nat} (hr : Room k X.A) : CallR X (.builtin "sorted") (rSortD X.K) := by
  intro pins s σ H vs us Q I r h
  obtain ⟨G, a, ws, ds, rfl, sg, hs, hd, al, so, hz, dp, q⟩ := h
  obtain ⟨its, rv, hl, _⟩ := I.list (SqL.of hs)
  rw [Vals.ref1 r]
  obtain ⟨e1, e2⟩ := each_vals I sg hd rv
  have hmp : ds.map id = ds := List.map_id ds
  refine PySem.W.sorted_data (enc := id) (bs := ds) hl.isList e1 e2 (by rw [hmp]; exact al) (by rw [hmp]; exact so) (Nat.le_trans hz (by decide)) (fun b hb => by have := dp b hb; have := un_of hr (n := 102) (by omega); show X.A.units + 2 + b.depth < cLine; omega) fun out hlen ho => ?_
  obtain ⟨os, h1, h2⟩ := vals_each (K := X.K) (G := G) ho
  obtain ⟨ep, he'⟩ := PyProof.Rows.sortedAll_at s.heap its out.toArray
  have hlen2 : os.length ≤ sizeLine := by rw [h1.length, hlen]; exact Nat.le_trans hz (by decide)
  exact ⟨.ref _, upd H (s.heap.objs.size + 1) (.lst os), I.laid (t' := s.toks) (fun _ _ => PyProof.Rows.sortedAll_old) (Nat.le_succ _) ⟨hlen2, out, ep, h1, he'⟩, rfl, q _ os (I.hok.fresh (Nat.le_succ _)) h2⟩
theorem c_sorted (F : Fam X P w K mg base N sc fv k) {ds : List PyData} (hx : lstOf m x = some (ds.map .d)) (al : PySem.W.AllAlike ds) (so : PySem.W.Sortable ds) (hz : ds.length ≤ 100000) (dp : ∀ d ∈ ds, d.depth ≤ 100) (q : NewL ((sortD ds).map .d) m Q) : CaW X K (.builtin "sorted") [x] m Q := fun π G H R vs hk rs wv => by
  obtain ⟨v, rfl, rv⟩ := rvs1 rs
  obtain ⟨a, us, e, hs, ru⟩ := lst_real hk rv hx
  exact ⟨rSortD K, fun j => F.cK j ▸ cr_sortD (F.room j), G, a, us, ds, by rw [e], hk.sub, hs, rvs_data ru, al, so, hz, dp, fun p os hp ho => newl hk hp (data_rvs ho) q wv⟩
/-! min of a list of data, with default= or without -/
def rMinD (K : PySem.W.Frag) : List V → Hp → VK → Prop := fun vs H Q => ∃ G a ws d ds, vs = [V.ref a] ∧ Same G H ∧ H a = some (.lst ws) ∧ DaAll K G ws (d :: ds) ∧ PySem.W.AlikeAll (d :: ds) ∧ PyData.plainAll (d :: ds) = true ∧ PyData.depthAll (d :: ds) ≤ 100 ∧ ∀ v, Da K G v (PySem.W.minD d ds) → Q v H
theorem vals_getU : ∀ {xs : List V} {us : List Value} {i : Nat} {u : Value}, Vals xs us → us[i]? = some u → ∃ x, xs[i]? = some x ∧ RelV x u
  | _, _, _, _, .nil, e => by simp at e
  | _, _, 0, _, .cons r _, e => by simp at e; subst e; exact ⟨_, rfl, r⟩
  | _, _, i + 1, x, .cons _ t, e => by
    obtain ⟨u, h1, h2⟩ := vals_getU (i := i) (u := x) t (by simpa using e)
    exact ⟨u, by simpa using h1, h2⟩
theorem plain_mem' : ∀ {xs : List PyData} {x : PyData}, PyData.plainAll xs = true → x ∈ xs → x.plain = true
  | y :: ys, x, h, hx => by
    have h : (y.plain && PyData.plainAll ys) = true := h
    rw [Bool.and_eq_true] at h
    rcases List.mem_cons.mp hx with e | hx
    · rw [e]; exact h.1
    · exact plain_mem' h.2 hx
theorem pick {X : Cx} {pins : List (Addr × Obj)} {σ : St} {G H : Hp} {s : Shared} {h' : Heap} {tk : Nat} (I : Inv X pins σ H s) (sg : Same G H) {ws : List V} {es : List PyData} {its : List Value} {i : Nat} {v : Value} {d : PyData} {bs : List Addr}
    (hd : DaAll X.K G ws es) (rv : Vals ws its) (hv : its[i]? = some v) (hp : PyData.plainAll es = true) (rd : Reads h' v d bs) (hk : ∀ b o, s.heap.get? b = some o → h'.get? b = some o) : ∃ x, RelV x v ∧ Da X.K G x d := by
  obtain ⟨x, hx, rx⟩ := vals_getU rv hv
  obtain ⟨e, he, de⟩ := hd.getV hx
  obtain ⟨as, re⟩ := da_reads I (da_mono sg de) v rx
  have z : e = d := PySem.SeqAt.plain_unique e d v as bs (plain_mem' hp (List.mem_of_getElem? he)) (PySem.W.reads_keeps hk re) rd
  subst z
  exact ⟨x, rx, de⟩
theorem cr_minD {X : Cx} {k : Nat} (hc : X.calm = true) (hr : Room k X.A) : CallR X (.builtin "min") (rMinD X.K) := by
  intro pins s σ H vs us Q I r h
  obtain ⟨G, a, ws, d, ds, rfl, sg, hs, hd, al, pl, dp, q⟩ := h
  obtain ⟨its, rv, hl, _⟩ := I.list (SqL.of hs)
  rw [Vals.ref1 r]
  obtain ⟨as, ra⟩ := daAll_reads I (daAll_mono sg hd) rv
  refine PySem.W.min_list_data (I.ok.hd hc) hl.isList (by simpa using ra) al (by have := un_of hr (n := 102) (by omega); omega) fun i v h' tk bs hv rd hk => ?_
  obtain ⟨x, rx, dx⟩ := pick (tk := tk) I sg hd rv (by simpa using hv) pl rd hk
  exact ⟨x, H, I.kept (t' := tk) hk, rx, q x dx⟩
theorem c_minD (F : Fam X P w K mg base N sc fv k) {d : PyData} {ds : List PyData} (hx : lstOf m x = some ((d :: ds).map .d)) (al : PySem.W.AlikeAll (d :: ds)) (pl : PyData.plainAll (d :: ds) = true) (dp : PyData.depthAll (d :: ds) ≤ 100) (q : Q (.d (PySem.W.minD d ds)) m) : CaW X K (.builtin "min") [x] m Q := fun π G H R vs hk rs wv => by
  obtain ⟨v, rfl, rv⟩ := rvs1 rs
  obtain ⟨a, us, e, hs, ru⟩ := lst_real hk rv hx
  exact ⟨rMinD K, fun j => F.cK j ▸ cr_minD (F.calm j) (F.room j), G, a, us, d, ds, by rw [e], hk.sub, hs, rvs_data ru, al, pl, dp, fun v' dv => wv v' (.d _) π G H m Xt.refl hk dv q⟩
def rMinDD (K : PySem.W.Frag) : List V → List V → Hp → VK → Prop := fun vs zs H Q => ∃ G a ws z ds, vs = [V.ref a] ∧ zs = [z] ∧ Same G H ∧ H a = some (.lst ws) ∧ DaAll K G ws ds ∧ PySem.W.AlikeAll ds ∧ PyData.plainAll ds = true ∧ PyData.depthAll ds ≤ 100 ∧
  (ds = [] → Q z H) ∧ ∀ y ys v, ds = y :: ys → Da K G v (PySem.W.minD y ys) → Q v H
theorem cr_minDD {X : Cx} {k : Nat} (hc : X.calm = true) (hr : Room k X.A) : CallRK X (.builtin "min") [Str.ofString "default"] (rMinDD X.K) := by
  intro pins s σ H vs zs us ws' Q I r r2 h
  obtain ⟨G, a, ws, z, ds, rfl, rfl, sg, hs, hd, al, pl, dp, q0, q⟩ := h
  obtain ⟨its, rv, hl, _⟩ := I.list (SqL.of hs)
  rw [Vals.ref1 r]
  cases r2 with
  | cons rz t =>
    cases t
    obtain ⟨as, ra⟩ := daAll_reads I (daAll_mono sg hd) rv
    refine PySem.W.min_list_default (I.ok.hd hc) hl.isList (by simpa using ra) al (by have := un_of hr (n := 102) (by omega); omega) (fun e h' tk hk => ⟨z, H, I.kept (t' := tk) hk, rz, q0 e⟩) fun y ys i v h' tk bs e hv rd hk => ?_
    obtain ⟨x, rx, dx⟩ := pick (tk := tk) I sg hd rv (by simpa using hv) pl rd hk
    exact ⟨x, H, I.kept (t' := tk) hk, rx, q y ys x e dx⟩
/-- min(e, default=f) -/
theorem we_minDD (F : Fam X P w K mg base N sc fv k) {f : Expr} {kp : Pos} (hm : mg "min" = none) (h : We X K e ρ m fun x m1 => We X K f ρ m1 fun z m2 => ∃ ds, lstOf m2 x = some (ds.map .d) ∧ PySem.W.AlikeAll ds ∧ PyData.plainAll ds = true ∧ PyData.depthAll ds ≤ 100 ∧ (match ds with | [] => Q z m2 | y :: ys => Q (.d (PySem.W.minD y ys)) m2))
    (hg : sc.names.lookup ("min" : Str) = some .globalImplicit := by rfl)
    (he : ∀ env : Env, backTo pos (starEach [e] env) = (false, eval e env) :: backTo pos (starEach [] env) := by intro _; rfl) (hpl : ∀ env : Env, (backTo pos (starEach [e] env)).any (·.1) = false := by intro _; rfl) (hst : ∀ env : Env, starEach [e] env = (false, eval e env) :: starEach [] env := by intro _; rfl) :
    We X K (.Call (.Name "min" p) [e] [⟨some "default", f, kp⟩] pos) ρ m Q := fun π G σ H R hk sk wv => by
  refine ⟨tCKw (rMinDD K) (tCons (TeOf X e) tNil) (tCons (TeOf X f) tNil), fun j => pe_callBK (F.cK j ▸ cr_minDD (F.calm j) (F.room j)) (F.gl hg j) (by rw [F.cM]; exact hm) (by decide +kernel) (pa_cons (teOf X e j) pa_nil (hst _)) (pk_cons (teOf X f j) pk_nil) (by decide) (by decide) (he _) (hpl _), ?_⟩
  refine h π G σ H _ hk sk fun v x π1 G1 H1 m1 e1 hk1 rv q1 => q1 π1 G1 σ H1 _ hk1 (sk.xt e1) fun z zx π2 G2 H2 m2 e2 hk2 rz ⟨ds, hx, al, pl, dp, q2⟩ => ?_
  obtain ⟨a, us, ev, hs, ru⟩ := lst_real hk2 (rv.xt e2) hx
  have wv2 := wv.xt (e1.trans e2)
  refine ⟨G2, a, us, z, ds, by rw [ev], rfl, hk2.sub, hs, rvs_data ru, al, pl, dp, fun e0 => ?_, fun y ys v' ey dv => ?_⟩
  · subst e0; exact wv2 z zx π2 G2 H2 m2 Xt.refl hk2 rz q2
  · subst ey; exact wv2 v' (.d _) π2 G2 H2 m2 Xt.refl hk2 dv q2
/-! xs.append(e) -/
theorem we_append (F : Fam X P w K mg base N sc fv k) {o : Expr} {apos : Pos} (h : We X K o ρ m fun y m1 => ∃ i xs, y = .r i ∧ m1[i]? = some (.lst xs) ∧ We X K e ρ m1 fun x m2 => ∃ xs', m2[i]? = some (.lst xs') ∧ xs'.length < 100000 ∧ Q (.d .none) (m2.set i (.lst (xs' ++ [x]))))
    (hst : ∀ env : Env, starEach [e] env = (false, eval e env) :: starEach [] env := by intro _; rfl) (hbase : ∀ env : Env, attributeBase o "append" env (eval o env) = eval o env := by intro _; rfl)
    (hfew : ∀ env : Env, ((backTo pos (starEach [e] env)).all (fun x => !x.1) && (backToKw pos (keywordEach [] env)).all (fun x => x.1.isSome) && decide ([e].length + ([] : List Keyword).length + (if ([] : List Keyword).isEmpty then 0 else 1) < 30)) = true := by intro _; rfl)
    (hline : (apos.endLine == pos.line) = true := by rfl) (hplain : ∀ env : Env, (backTo pos (starEach [] env)).any (·.1) = false := by intro _; rfl) :
    We X K (.Call (.Attribute o "append" apos) [e] [] pos) ρ m Q := fun π G σ H R hk sk wv => by
  refine ⟨tBM K "list" rAppend (TeOf X o) (tCons (TeOf X e) tNil), fun j => F.cK j ▸ pe_bm PySem.F.plainAttrs_list PySem.F.slot_list_append PySem.F.type_list_append mt_append (teOf X o j) (pa_cons (teOf X e j) pa_nil (hst _)) (hbase _) (hfew _) hline (hst _) (hplain _), h π G σ H _ hk sk fun v y π1 G1 H1 m1 e1 hk1 rv ⟨i, xs, ey, hi, q1⟩ => ?_⟩
  subst ey
  obtain ⟨a, ha, rfl⟩ := rv
  obtain ⟨a', u, h1, h2, us, eu, ru⟩ := hk1.obj i _ hi
  rw [ha] at h1; cases h1
  subst eu
  refine ⟨Or.inl ⟨rfl, us, SqL.of h2⟩, q1 π1 G1 σ H1 _ hk1 (sk.xt e1) fun z x π2 G2 H2 m2 e2 hk2 rz ⟨xs', hi', hl, q2⟩ => ?_⟩
  have ha2 := e2.get ha
  obtain ⟨a', u, h1', h2', us', eu, ru'⟩ := hk2.obj i _ hi'
  rw [ha2] at h1'; cases h1'
  subst eu
  have e3 : Xt π2 G2 H2 π2 G2 (upd H2 a (.lst (us' ++ [z]))) := Xt.write (List.mem_of_getElem? ha2)
  refine ⟨a, us', z, rfl, rfl, h2', by rw [Paired.length ru']; exact Nat.lt_of_lt_of_le hl (by decide), ?_⟩
  exact wv _ (.d .none) π2 G2 _ _ ((e1.trans e2).trans e3) (hk2.write ha2 (show Rob K G2 π2 (.lst (us' ++ [z])) (.lst (xs' ++ [x])) from ⟨_, rfl, Paired.snoc ru' rz⟩)) Da.non q2
/-! all -/
theorem c_all (F : Fam X P w K mg base N sc fv k) {bs : List Bool} (hx : lstOf m x = some (bs.map fun b => .d (.bool b))) (q : Q (.d (.bool (bs.all id))) m) : CaW X K (.builtin "all") [x] m Q := fun π G H R vs hk rs wv => by
  obtain ⟨v, rfl, rv⟩ := rvs1 rs
  obtain ⟨a, us, e, hs, ru⟩ := lst_real hk rv hx
  have eu : us = bs.map V.bl := by
    clear hs hx q
    induction bs generalizing us with
    | nil => cases ru; rfl
    | cons b bs ih => cases ru with | cons r t => rw [Da.blI r, ih _ t]; rfl
  subst eu
  exact ⟨rAll K, fun j => F.cK j ▸ cr_all (F.calm j), a, bs, by rw [e], SqL.of hs, wv _ (.d (.bool _)) π G H m Xt.refl hk (Da.bl _) q⟩
end
end Wn
set_option Elab.async false
set_option linter.all false
set_option maxRecDepth 100000
set_option maxHeartbeats 2000000
set_option autoImplicit false
namespace Wn
open PySem L2
structure Bt (mg : Str → Option Value) : Prop where
  len : mg "len" = none
  isi : mg "isinstance" = none
  int : mg "int" = none
  bool : mg "bool" = none
  tuple : mg "tuple" = none
  list : mg "list" = none
  range : mg "range" = none
  min : mg "min" = none
  abs : mg "abs" = none
  sorted : mg "sorted" = none
  zip : mg "zip" = none
  enumerate : mg "enumerate" = none
theorem bo_len : bootBuiltins "len" = some (.builtin "len") := by decide +kernel
theorem bo_isi : bootBuiltins "isinstance" = some (.builtin "isinstance") := by decide +kernel
theorem bo_min : bootBuiltins "min" = some (.builtin "min") := by decide +kernel
theorem bo_abs : bootBuiltins "abs" = some (.builtin "abs") := by decide +kernel
theorem bo_sorted : bootBuiltins "sorted" = some (.builtin "sorted") := by decide +kernel
theorem bo_int : bootBuiltins "int" = some (.type "int") := by decide +kernel
theorem bo_bool : bootBuiltins "bool" = some (.type "bool") := by decide +kernel
theorem bo_tuple : bootBuiltins "tuple" = some (.type "tuple") := by decide +kernel
theorem bo_list : bootBuiltins "list" = some (.type "list") := by decide +kernel
section
variable {ι : Type} {X : ι → Cx} {P : Program} {w : World} {K : PySem.W.Frag} {mg : Str → Option Value} {base : Heap} {N : List Str} {sc : Scope} {fv : Str → Bool} {k : Nat} {ρ : Ro} {m : Mm} {Q Q' : QV} {D : Ed} {a b c e tg it elt : Expr} {pos p : Pos} {x y z : MV}
theorem b_len (F : Fam X P w K mg base N sc fv k) (B : Bt mg) (h : We X K e ρ m fun x m1 => ∃ xs, seqOf m1 x = some xs ∧ Q (.d (.int (xs.length : Nat))) m1) (hg : sc.names.lookup ("len" : Str) = some .globalImplicit := by rfl) (he : ∀ env : Env, starEach [e] env = (false, eval e env) :: starEach [] env := by intro _; rfl) (hpl : ∀ env : Env, (backTo pos (starEach [] env)).any (·.1) = false := by intro _; rfl) :
    We X K (.Call (.Name "len" p) [e] [] pos) ρ m Q := we_callB F (wr_cons (h.mono fun x m1 ⟨xs, hx, q⟩ => wr_nil (c_len F hx q)) he) B.len bo_len hg (by decide) (by decide) he hpl
theorem b_isi (F : Fam X P w K mg base N sc fv k) (B : Bt mg) {T : Str} {n : String} {p2 : Pos} (hm : mg T = none) (hv : bootBuiltins T = some (.type n)) (h : We X K e ρ m fun x m1 => ∃ d b, datOf m1 x = some d ∧ isaD n d = some b ∧ Q (.d (.bool b)) m1) (hg : sc.names.lookup ("isinstance" : Str) = some .globalImplicit := by rfl) (hgT : sc.names.lookup T = some .globalImplicit := by rfl) (hn : T ≠ "__name__" := by decide) (hd : (T == ("__debug__" : Str)) = false := by decide)
    (he : ∀ env : Env, starEach [e, .Name T p2] env = (false, eval e env) :: starEach [.Name T p2] env := by intro _; rfl) (hpl : ∀ env : Env, (backTo pos (starEach [.Name T p2] env)).any (·.1) = false := by intro _; rfl) (he2 : ∀ env : Env, starEach [.Name T p2] env = (false, eval (.Name T p2) env) :: starEach [] env := by intro _; rfl) :
    We X K (.Call (.Name "isinstance" p) [e, .Name T p2] [] pos) ρ m Q := we_callB F (wr_cons (h.mono fun x m1 ⟨d, b, hx, hb, q⟩ => wr_cons (we_ty F hm hv (wr_nil (c_isa F hx hb q)) hgT hn hd) he2) he) B.isi bo_isi hg (by decide) (by decide) he hpl
theorem b_isiInt (F : Fam X P w K mg base N sc fv k) (B : Bt mg) {p2 : Pos} (h : We X K e ρ m fun x m1 => ∃ d, datOf m1 x = some d ∧ Q (.d (.bool d.isInt)) m1) (hg : sc.names.lookup ("isinstance" : Str) = some .globalImplicit := by rfl) (hgT : sc.names.lookup ("int" : Str) = some .globalImplicit := by rfl)
    (he : ∀ env : Env, starEach [e, .Name "int" p2] env = (false, eval e env) :: starEach [.Name "int" p2] env := by intro _; rfl) (hpl : ∀ env : Env, (backTo pos (starEach [.Name "int" p2] env)).any (·.1) = false := by intro _; rfl) : We X K (.Call (.Name "isinstance" p) [e, .Name "int" p2] [] pos) ρ m Q :=
  b_isi F B B.int bo_int (h.mono fun x m1 ⟨d, hx, q⟩ => ⟨d, _, hx, rfl, q⟩) hg hgT (by decide) (by decide) he hpl
theorem b_isiBool (F : Fam X P w K mg base N sc fv k) (B : Bt mg) {p2 : Pos} (h : We X K e ρ m fun x m1 => ∃ d, datOf m1 x = some d ∧ Q (.d (.bool d.isBool)) m1) (hg : sc.names.lookup ("isinstance" : Str) = some .globalImplicit := by rfl) (hgT : sc.names.lookup ("bool" : Str) = some .globalImplicit := by rfl)
    (he : ∀ env : Env, starEach [e, .Name "bool" p2] env = (false, eval e env) :: starEach [.Name "bool" p2] env := by intro _; rfl) (hpl : ∀ env : Env, (backTo pos (starEach [.Name "bool" p2] env)).any (·.1) = false := by intro _; rfl) : We X K (.Call (.Name "isinstance" p) [e, .Name "bool" p2] [] pos) ρ m Q :=
  b_isi F B B.bool bo_bool (h.mono fun x m1 ⟨d, hx, q⟩ => ⟨d, _, hx, rfl, q⟩) hg hgT (by decide) (by decide) he hpl
theorem b_isiTup (F : Fam X P w K mg base N sc fv k) (B : Bt mg) {p2 : Pos} (h : We X K e ρ m fun x m1 => ∃ d, datOf m1 x = some d ∧ Q (.d (.bool d.isTuple)) m1) (hg : sc.names.lookup ("isinstance" : Str) = some .globalImplicit := by rfl) (hgT : sc.names.lookup ("tuple" : Str) = some .globalImplicit := by rfl)
    (he : ∀ env : Env, starEach [e, .Name "tuple" p2] env = (false, eval e env) :: starEach [.Name "tuple" p2] env := by intro _; rfl) (hpl : ∀ env : Env, (backTo pos (starEach [.Name "tuple" p2] env)).any (·.1) = false := by intro _; rfl) : We X K (.Call (.Name "isinstance" p) [e, .Name "tuple" p2] [] pos) ρ m Q :=
  b_isi F B B.tuple bo_tuple (h.mono fun x m1 ⟨d, hx, q⟩ => ⟨d, _, hx, rfl, q⟩) hg hgT (by decide) (by decide) he hpl
theorem b_abs (F : Fam X P w K mg base N sc fv k) (B : Bt mg) (h : We X K e ρ m fun x m1 => ∃ i : Int, x = .d (.int i) ∧ Q (.d (.int (if i < 0 then -i else i))) m1) (hg : sc.names.lookup ("abs" : Str) = some .globalImplicit := by rfl) (he : ∀ env : Env, starEach [e] env = (false, eval e env) :: starEach [] env := by intro _; rfl) (hpl : ∀ env : Env, (backTo pos (starEach [] env)).any (·.1) = false := by intro _; rfl) :
    We X K (.Call (.Name "abs" p) [e] [] pos) ρ m Q := we_callB F (wr_cons (h.mono fun x m1 ⟨i, hx, q⟩ => wr_nil (by rw [hx]; exact c_abs q)) he) B.abs bo_abs hg (by decide) (by decide) he hpl
theorem b_intB (F : Fam X P w K mg base N sc fv k) (B : Bt mg) (h : We X K e ρ m fun x m1 => ∃ i : Bool, x = .d (.bool i) ∧ Q (.d (.int (if i then 1 else 0))) m1) (hg : sc.names.lookup ("int" : Str) = some .globalImplicit := by rfl) (he : ∀ env : Env, starEach [e] env = (false, eval e env) :: starEach [] env := by intro _; rfl) (hpl : ∀ env : Env, (backTo pos (starEach [] env)).any (·.1) = false := by intro _; rfl) :
    We X K (.Call (.Name "int" p) [e] [] pos) ρ m Q := we_callT F (wr_cons (h.mono fun x m1 ⟨i, hx, q⟩ => wr_nil (by rw [hx]; exact c_intB q)) he) B.int bo_int hg (by decide) (by decide) he hpl
theorem b_tup (F : Fam X P w K mg base N sc fv k) (B : Bt mg) (h : We X K e ρ m fun x m1 => ∃ ds : List PyData, seqOf m1 x = some (ds.map .d) ∧ Q (.d (.tuple ds)) m1) (hg : sc.names.lookup ("tuple" : Str) = some .globalImplicit := by rfl) (he : ∀ env : Env, starEach [e] env = (false, eval e env) :: starEach [] env := by intro _; rfl) (hpl : ∀ env : Env, (backTo pos (starEach [] env)).any (·.1) = false := by intro _; rfl) :
    We X K (.Call (.Name "tuple" p) [e] [] pos) ρ m Q := we_callT F (wr_cons (h.mono fun x m1 ⟨ds, hx, q⟩ => wr_nil (c_tup F hx q)) he) B.tuple bo_tuple hg (by decide) (by decide) he hpl
theorem b_lst (F : Fam X P w K mg base N sc fv k) (B : Bt mg) (h : We X K e ρ m fun x m1 => ∃ xs, seqOf m1 x = some xs ∧ NewL xs m1 Q) (hg : sc.names.lookup ("list" : Str) = some .globalImplicit := by rfl) (he : ∀ env : Env, starEach [e] env = (false, eval e env) :: starEach [] env := by intro _; rfl) (hpl : ∀ env : Env, (backTo pos (starEach [] env)).any (·.1) = false := by intro _; rfl) :
    We X K (.Call (.Name "list" p) [e] [] pos) ρ m Q := we_callT F (wr_cons (h.mono fun x m1 ⟨ds, hx, q⟩ => wr_nil (c_lst F hx q)) he) B.list bo_list hg (by decide) (by decide) he hpl
theorem b_min2 (F : Fam X P w K mg base N sc fv k) (B : Bt mg) (h : We X K a ρ m fun x m1 => We X K b ρ m1 fun y m2 => ∃ i j : Int, x = .d (.int i) ∧ y = .d (.int j) ∧ Q (.d (.int (if j < i then j else i))) m2) (hg : sc.names.lookup ("min" : Str) = some .globalImplicit := by rfl) (he : ∀ env : Env, starEach [a, b] env = (false, eval a env) :: starEach [b] env := by intro _; rfl) (he2 : ∀ env : Env, starEach [b] env = (false, eval b env) :: starEach [] env := by intro _; rfl) (hpl : ∀ env : Env, (backTo pos (starEach [b] env)).any (·.1) = false := by intro _; rfl) :
    We X K (.Call (.Name "min" p) [a, b] [] pos) ρ m Q := we_callB F (wr_cons (h.mono fun x m1 h2 => wr_cons (h2.mono fun y m2 ⟨i, j, hx, hy, q⟩ => wr_nil (by rw [hx, hy]; exact c_min2 F q)) he2) he) B.min bo_min hg (by decide) (by decide) he hpl
theorem b_min1 (F : Fam X P w K mg base N sc fv k) (B : Bt mg) (h : We X K e ρ m fun x m1 => ∃ d ds, lstOf m1 x = some ((d :: ds).map .d) ∧ PySem.W.AlikeAll (d :: ds) ∧ PyData.plainAll (d :: ds) = true ∧ PyData.depthAll (d :: ds) ≤ 100 ∧ Q (.d (PySem.W.minD d ds)) m1) (hg : sc.names.lookup ("min" : Str) = some .globalImplicit := by rfl) (he : ∀ env : Env, starEach [e] env = (false, eval e env) :: starEach [] env := by intro _; rfl) (hpl : ∀ env : Env, (backTo pos (starEach [] env)).any (·.1) = false := by intro _; rfl) :
    We X K (.Call (.Name "min" p) [e] [] pos) ρ m Q := we_callB F (wr_cons (h.mono fun x m1 ⟨d, ds, hx, h1, h2, h3, q⟩ => wr_nil (c_minD F hx h1 h2 h3 q)) he) B.min bo_min hg (by decide) (by decide) he hpl
theorem b_sorted (F : Fam X P w K mg base N sc fv k) (B : Bt mg) (h : We X K e ρ m fun x m1 => ∃ ds, lstOf m1 x = some (ds.map .d) ∧ PySem.W.AllAlike ds ∧ PySem.W.Sortable ds ∧ ds.length ≤ 100000 ∧ (∀ d ∈ ds, d.depth ≤ 100) ∧ NewL ((sortD ds).map .d) m1 Q) (hg : sc.names.lookup ("sorted" : Str) = some .globalImplicit := by rfl) (he : ∀ env : Env, starEach [e] env = (false, eval e env) :: starEach [] env := by intro _; rfl) (hpl : ∀ env : Env, (backTo pos (starEach [] env)).any (·.1) = false := by intro _; rfl) :
    We X K (.Call (.Name "sorted" p) [e] [] pos) ρ m Q := we_callB F (wr_cons (h.mono fun x m1 ⟨ds, hx, h1, h2, h3, h4, q⟩ => wr_nil (c_sorted F hx h1 h2 h3 h4 q)) he) B.sorted bo_sorted hg (by decide) (by decide) he hpl
end
end Wn
set_option Elab.async false
set_option linter.all false
set_option maxRecDepth 100000
set_option maxHeartbeats 2000000
set_option autoImplicit false
namespace Wn
open PySem L2
inductive At : List Str → Nat → Str → Prop
  | z {x : Str} {r : List Str} : At (x :: r) 0 x
  | s {x y : Str} {r : List Str} {i : Nat} : At r i x → At (y :: r) (i + 1) x
theorem At.get {N : List Str} {i : Nat} {x : Str} (h : At N i x) : N[i]? = some x := by
  induction h with
  | z => rfl
  | s _ ih => simpa using ih
section
variable {ι : Type} {X : ι → Cx} {P : Program} {w : World} {K : PySem.W.Frag} {mg : Str → Option Value} {base : Heap} {N : List Str} {sc : Scope} {fv : Str → Bool} {k : Nat} {ρ : Ro} {m : Mm} {Q Q' : QV} {D : Ed} {a b c e tg it elt : Expr} {pos p : Pos} {x y z : MV} {i : Nat} {nm : Str}
theorem we_varA (F : Fam X P w K mg base N sc fv k) (hN : At N i nm) (hr : ρ[i]? = some (some x)) (q : Q x m) (hv : Vis sc nm := by first | exact Or.inl rfl | exact Or.inr (Or.inl rfl) | exact Or.inr (Or.inr rfl))
    (hd : (nm == ("__debug__" : Str)) = false := by decide) (hcd : (nm == ("__classdict__" : Str)) = false := by decide) : We X K (.Name nm pos) ρ m Q := we_var F i hr q hN.get hv hd hcd
theorem wg_nameA (F : Fam X P w K mg base N sc fv k) (hN : At N i nm) {vs : Nat → Prop} {Q : Ro → Mm → Prop} (q : Q (ρ.set i (some x)) m) (hv : vs i := by first | trivial | decide) (hl : Loc sc nm := by first | exact Or.inl rfl | exact Or.inr rfl)
    (hf : fv nm = true ∨ sc.names.lookup nm = some .local := by first | exact Or.inl rfl | exact Or.inr rfl) : Wg X K vs (.Name nm pos) x ρ m Q := wg_name F i q hv hN.get hl hf
theorem ws_setA (F : Fam X P w K mg base N sc fv k) {p' : Pos} (hN : At N i nm) (h : We X K e ρ m fun x m1 => D.nx (ρ.set i (some x)) m1) (hs : ∀ env : Env, swapsWith e (some (.Name nm p')) pos.line env = pure false := by intro _; rfl) (hl : Loc sc nm := by first | exact Or.inl rfl | exact Or.inr rfl)
    (hf : fv nm = true ∨ sc.names.lookup nm = some .local := by first | exact Or.inl rfl | exact Or.inr rfl) : Ws1 X K (.Assign [.Name nm p'] e pos) ρ m D := ws_set F i h hs hN.get hl hf
theorem wo_none {Q : Option Int → Mm → Prop} (q : Q none m) : Wo X K none ρ m Q := q
theorem wo_some {Q : Option Int → Mm → Prop} (h : We X K e ρ m fun x m1 => ∃ i : Int, x = .d (.int i) ∧ Q (some i) m1) : Wo X K (some e) ρ m Q := h
end
theorem enumD_some {ds : List PyData} {i : Nat} {x : MV} (h : (enumD ds)[i]? = some x) : ∃ d, ds[i]? = some d ∧ x = .d (.tuple [.int (i : Nat), d]) := by
  have hi : i < ds.length := by
    by_cases z : i < ds.length
    · exact z
    · rw [List.getElem?_eq_none (by simp [enumD]; omega)] at h; cases h
  have e : ds[i]? = some ds[i] := List.getElem?_eq_getElem hi
  rw [enumD_get e] at h
  exact ⟨_, e, (Option.some.inj h).symm⟩
theorem enumD_len (ds : List PyData) : (enumD ds).length = ds.length := by simp [enumD]
theorem last_get (m : Mm) (o : MO) : (m ++ [o])[m.length]? = some o := by simp
theorem last_set (m : Mm) (o o' : MO) : (m ++ [o]).set m.length o' = m ++ [o'] := by
  rw [List.set_append_right _ _ (Nat.le_refl _)]; simp
theorem last_take (m t : Mm) : (m ++ t).take m.length = m := by simp
theorem app_get {m t : Mm} {i : Nat} {o : MO} (h : m[i]? = some o) : (m ++ t)[i]? = some o := by
  rw [List.getElem?_append_left ((List.getElem?_eq_some_iff.mp h).1)]; exact h
theorem seqOf_app {m t : Mm} {x : MV} {xs : List MV} (h : seqOf m x = some xs) : seqOf (m ++ t) x = some xs := by
  cases x with
  | d y => cases y <;> exact h
  | t _ => exact h
  | s _ => exact h
  | r i =>
    have h : (match m[i]? with | some (.lst xs) => some xs | _ => none) = some xs := h
    show (match (m ++ t)[i]? with | some (.lst xs) => some xs | _ => none) = some xs
    cases e : m[i]? with
    | none => rw [e] at h; cases h
    | some o => rw [app_get e]; rw [e] at h; exact h
theorem seqOf_r {m : Mm} {i : Nat} {xs : List MV} (h : m[i]? = some (.lst xs)) : seqOf m (.r i) = some xs := by
  show (match m[i]? with | some (.lst xs) => some xs | _ => none) = some xs
  rw [h]
theorem lstOf_r {m : Mm} {i : Nat} {xs : List MV} (h : m[i]? = some (.lst xs)) : lstOf m (.r i) = some xs := by
  show (match m[i]? with | some (.lst xs) => some xs | _ => none) = some xs
  rw [h]
theorem datOf_r {m : Mm} {i : Nat} {ds : List PyData} (h : m[i]? = some (.lst (ds.map .d))) : datOf m (.r i) = some (.list ds) := by
  show (match m[i]? with | some (.lst xs) => (allD xs).map PyData.list | _ => none) = some (.list ds)
  rw [h]
  show (allD (ds.map .d)).map PyData.list = _
  rw [allD_map]
  rfl
/-- a def's end: the store as it was at the start -/
theorem ret_drop {m t : Mm} {Q : QV} {x : MV} (hs : Scd m) (hx : x.sc m.length) (q : Q x m) : Ret m.length Q x (m ++ t) := .inr (.inl ⟨by rw [last_take]; exact hs, hx, by rw [last_take]; exact q⟩)
theorem atI_of {α : Type} {xs : List α} {k : Nat} {i : Int} {y : α} (h : xs[k]? = some y) (hi : i = (k : Int)) : atI xs i = some y := by
  subst hi
  have hk : k < xs.length := (List.getElem?_eq_some_iff.mp h).1
  unfold atI ixN
  rw [if_pos (by omega), if_pos (by omega)]
  simpa using h
theorem ixN_of {n k : Nat} {i : Int} (h : k < n) (hi : i = (k : Int)) : ixN n i = some k := by
  subst hi
  unfold ixN
  rw [if_pos (by omega), if_pos (by omega)]
  simp
end Wn
set_option Elab.async false
set_option linter.all false
set_option maxRecDepth 100000
set_option maxHeartbeats 2000000
set_option autoImplicit false
set_option pp.maxSteps 600
namespace Wn
open PySem L2
local macro_rules | `(tactic| walk_at "fam") => `(tactic| first | assumption | exact Fam.blk (by assumption) _ | exact Fam.blk (Fam.blk (by assumption) _) _)
local macro_rules | `(tactic| walk_at "at") => `(tactic| with_reducible first | exact At.z | exact At.s At.z | exact At.s (At.s At.z) | exact At.s (At.s (At.s At.z)) | exact At.s (At.s (At.s (At.s At.z))) | exact At.s (At.s (At.s (At.s (At.s At.z)))) | exact At.s (At.s (At.s (At.s (At.s (At.s At.z))))) | exact At.s (At.s (At.s (At.s (At.s (At.s (At.s At.z)))))) | exact At.s (At.s (At.s (At.s (At.s (At.s (At.s (At.s At.z))))))) | exact At.s (At.s (At.s (At.s (At.s (At.s (At.s (At.s (At.s At.z)))))))) | exact At.s (At.s (At.s (At.s (At.s (At.s (At.s (At.s (At.s (At.s At.z))))))))) | exact At.s (At.s (At.s (At.s (At.s (At.s (At.s (At.s (At.s (At.s (At.s At.z)))))))))) | exact At.s (At.s (At.s (At.s (At.s (At.s (At.s (At.s (At.s (At.s (At.s (At.s At.z))))))))))) | exact At.s (At.s (At.s (At.s (At.s (At.s (At.s (At.s (At.s (At.s (At.s (At.s (At.s At.z)))))))))))) | exact At.s (At.s (At.s (At.s (At.s (At.s (At.s (At.s (At.s (At.s (At.s (At.s (At.s (At.s At.z))))))))))))) | exact At.s (At.s (At.s (At.s (At.s (At.s (At.s (At.s (At.s (At.s (At.s (At.s (At.s (At.s (At.s At.z)))))))))))))) | exact At.s (At.s (At.s (At.s (At.s (At.s (At.s (At.s (At.s (At.s (At.s (At.s (At.s (At.s (At.s (At.s At.z))))))))))))))) | exact At.s (At.s (At.s (At.s (At.s (At.s (At.s (At.s (At.s (At.s (At.s (At.s (At.s (At.s (At.s (At.s (At.s At.z)))))))))))))))) | exact At.s (At.s (At.s (At.s (At.s (At.s (At.s (At.s (At.s (At.s (At.s (At.s (At.s (At.s (At.s (At.s (At.s (At.s At.z))))))))))))))))) | exact At.s (At.s (At.s (At.s (At.s (At.s (At.s (At.s (At.s (At.s (At.s (At.s (At.s (At.s (At.s (At.s (At.s (At.s (At.s At.z)))))))))))))))))) | exact At.s (At.s (At.s (At.s (At.s (At.s (At.s (At.s (At.s (At.s (At.s (At.s (At.s (At.s (At.s (At.s (At.s (At.s (At.s (At.s At.z))))))))))))))))))) | exact At.s (At.s (At.s (At.s (At.s (At.s (At.s (At.s (At.s (At.s (At.s (At.s (At.s (At.s (At.s (At.s (At.s (At.s (At.s (At.s (At.s At.z)))))))))))))))))))))
local macro_rules | `(tactic| walk_at "call") => `(tactic| first
  | ((with_reducible show We _ _ (.Call (.Name "len" _) _ _ _) _ _ _); refine b_len (by walk_at "fam") (by assumption) ?_)
  | ((with_reducible show We _ _ (.Call (.Name "isinstance" _) [_, .Name "int" _] _ _) _ _ _); refine b_isiInt (by walk_at "fam") (by assumption) ?_)
  | ((with_reducible show We _ _ (.Call (.Name "isinstance" _) [_, .Name "bool" _] _ _) _ _ _); refine b_isiBool (by walk_at "fam") (by assumption) ?_)
  | ((with_reducible show We _ _ (.Call (.Name "isinstance" _) [_, .Name "tuple" _] _ _) _ _ _); refine b_isiTup (by walk_at "fam") (by assumption) ?_)
  | ((with_reducible show We _ _ (.Call (.Name "abs" _) _ _ _) _ _ _); refine b_abs (by walk_at "fam") (by assumption) ?_)
  | ((with_reducible show We _ _ (.Call (.Name "int" _) _ _ _) _ _ _); refine b_intB (by walk_at "fam") (by assumption) ?_)
  | ((with_reducible show We _ _ (.Call (.Name "tuple" _) _ _ _) _ _ _); refine b_tup (by walk_at "fam") (by assumption) ?_)
  | ((with_reducible show We _ _ (.Call (.Name "list" _) [.Call (.Name "range" _) _ _ _] _ _) _ _ _); refine we_listRg (by walk_at "fam") (Bt.list (by assumption)) (Bt.range (by assumption)) ?_)
  | ((with_reducible show We _ _ (.Call (.Name "list" _) _ _ _) _ _ _); refine b_lst (by walk_at "fam") (by assumption) ?_)
  | ((with_reducible show We _ _ (.Call (.Name "min" _) [_, _] _ _) _ _ _); refine b_min2 (by walk_at "fam") (by assumption) ?_)
  | ((with_reducible show We _ _ (.Call (.Name "min" _) [_] [_] _) _ _ _); refine we_minDD (by walk_at "fam") (Bt.min (by assumption)) ?_)
  | ((with_reducible show We _ _ (.Call (.Name "min" _) [_] [] _) _ _ _); refine b_min1 (by walk_at "fam") (by assumption) ?_)
  | ((with_reducible show We _ _ (.Call (.Name "sorted" _) _ _ _) _ _ _); refine b_sorted (by walk_at "fam") (by assumption) ?_)
  | ((with_reducible show We _ _ (.Call (.Attribute _ "append" _) _ _ _) _ _ _); refine we_append (by walk_at "fam") ?_)
  | ((with_reducible show We _ _ (.Call (.Name _ _) _ _ _) _ _ _); refine we_call (by walk_at "fam") (by assumption) (by decide) ?_)
  | ((with_reducible show We _ _ (.Call (.Name _ _) _ _ _) _ _ _); refine we_make (by walk_at "fam") (by assumption) (by decide) ?_)
  | ((with_reducible show We _ _ (.Call (.Attribute _ _ _) (_ :: _) _ _) _ _ _); refine we_meth (by walk_at "fam") (by assumption) (by decide) ?_)
  | ((with_reducible show We _ _ (.Call (.Attribute _ _ _) [] _ _) _ _ _); refine we_meth0 (by walk_at "fam") (by assumption) (by decide) ?_))
local macro_rules | `(tactic| walk_at "e") => `(tactic| first
  | ((with_reducible show We _ _ (.Name _ _) _ _ _); first | refine we_varA (by walk_at "fam") (by walk_at "at") (by rfl) ?_ | refine we_gint (by walk_at "fam") (by assumption) ?_)
  | ((with_reducible show We _ _ (.Constant _ _ _) _ _ _); first | refine we_int ?_ | refine we_bl ?_ | refine we_non ?_ | refine we_str ?_)
  | ((with_reducible show We _ _ (.BinOp _ _ _ _) _ _ _); refine we_bin ?_)
  | ((with_reducible show We _ _ (.Compare _ [_] _ _) _ _ _); refine we_cmp ?_)
  | ((with_reducible show We _ _ (.Compare _ [_, _] _ _) _ _ _); refine we_chain ?_)
  | ((with_reducible show We _ _ (.BoolOp _ [_] _) _ _ _); refine we_one ?_)
  | ((with_reducible show We _ _ (.BoolOp .And _ _) _ _ _); refine we_and ?_)
  | ((with_reducible show We _ _ (.BoolOp .Or _ _) _ _ _); refine we_or ?_)
  | ((with_reducible show We _ _ (.UnaryOp .Not _ _) _ _ _); refine we_not ?_)
  | ((with_reducible show We _ _ (.IfExp _ _ _ _) _ _ _); refine we_ifExp ?_)
  | ((with_reducible show We _ _ (.Tuple _ _ _) _ _ _); refine we_tup ?_)
  | ((with_reducible show We _ _ (.List _ _) _ _ _); refine we_lst ?_)
  | ((with_reducible show We _ _ (.Subscript _ (.Slice _ _ _ _) _) _ _ _); refine we_slice (by walk_at "fam") ?_)
  | ((with_reducible show We _ _ (.Subscript _ _ _) _ _ _); refine we_ix ?_)
  | ((with_reducible show We _ _ (.Attribute _ _ _) _ _ _); refine we_fld (by walk_at "fam") ?_)
  | walk_at "call"
  | ((with_reducible show Wo _ _ none _ _ _); refine wo_none ?_)
  | ((with_reducible show Wo _ _ (some _) _ _ _); refine wo_some ?_)
  | ((with_reducible show Wr _ _ [] _ _ _); refine wr_nil ?_)
  | ((with_reducible show Wr _ _ (_ :: _) _ _ _); refine wr_cons ?_)
  | ((with_reducible show Wt _ _ (.UnaryOp .Not _ _) _ _ _); refine wt_not ?_)
  | ((with_reducible show Wt _ _ (.BoolOp .And _ _) _ _ _); refine wt_w (ww_and ?_))
  | ((with_reducible show Wt _ _ (.BoolOp .Or _ _) _ _ _); refine wt_w (ww_or ?_))
  | ((with_reducible show Wt _ _ (.Compare _ [_] _ _) _ _ _); refine wt_cmp ?_)
  | ((with_reducible show Wt _ _ _ _ _ _); refine wt_val ?_)
  | ((with_reducible show Ww _ _ (.BoolOp .And [_] _) _ _ _); refine ww_and1 ?_)
  | ((with_reducible show Ww _ _ (.BoolOp .Or [_] _) _ _ _); refine ww_or1 ?_)
  | ((with_reducible show Ww _ _ (.BoolOp .And _ _) _ _ _); refine ww_and ?_)
  | ((with_reducible show Ww _ _ (.BoolOp .Or _ _) _ _ _); refine ww_or ?_)
  | ((with_reducible show Ws _ _ [] _ _ _); refine ws_nil ?_)
  | ((with_reducible show Ws _ _ (_ :: _) _ _ _); refine ws_cons ?_)
  | ((with_reducible show Ws1 _ _ (.Return (some _) _) _ _ _); refine ws_ret ?_)
  | ((with_reducible show Ws1 _ _ (.If _ _ _ _) _ _ _); refine ws_if ?_)
  | ((with_reducible show Ws1 _ _ (.Expr _ _) _ _ _); refine ws_expr ?_)
  | ((with_reducible show Ws1 _ _ (.Assign [.Name _ _] (.ListComp _ _ _ _) _) _ _ _); fail)
  | ((with_reducible show Ws1 _ _ (.Assign [.Name _ _] _ _) _ _ _); refine ws_setA (by walk_at "fam") (by walk_at "at") ?_)
  | ((with_reducible show Ws1 _ _ (.Assign [.Attribute _ _ _] _ _) _ _ _); refine ws_fld (by walk_at "fam") ?_)
  | ((with_reducible show Ws1 _ _ (.Assign [_] _ _) _ _ _); refine ws_asg ?_)
  | ((with_reducible show Wts _ _ [] _ _ _); refine wts_nil ?_)
  | ((with_reducible show Wts _ _ [_] _ _ _); refine wts_one ?_)
  | ((with_reducible show Wg _ _ _ (.Name _ _) _ _ _ _); refine wg_nameA (by walk_at "fam") (by walk_at "at") ?_)
  | ((with_reducible show Wg _ _ _ (.Tuple _ _ _) _ _ _ _); refine wg_tup (by walk_at "fam") ?_)
  | ((with_reducible show Wg _ _ _ (.Subscript _ _ _) _ _ _ _); refine wg_sub ?_)
  | refine wgs_nil ?_ | refine wgs_cons ?_)
local macro_rules | `(tactic| walk_at "w") => `(tactic| repeat walk_at "e")
def topS (i : Nat) : Stmt := PySem.Challenge.pw_wrapnets_k05_fars_turn.main.body.getD i (.Pass ⟨0, 0, 0, 0⟩)
def wholeD : PyData → Bool
  | .int _ => true
  | _ => false
theorem wholeD_eq (d : PyData) : (d.isInt && !d.isBool) = wholeD d := by cases d <;> rfl
def wholeIn (d : PyData) (lo hi : Int) : Bool := match d with
  | .int i => decide (lo ≤ i) && decide (i ≤ hi)
  | _ => false
theorem wholeIn_int (i lo hi : Int) : wholeIn (.int i) lo hi = (decide (lo ≤ i) && decide (i ≤ hi)) := rfl
def sIsWhole (xs : List MV) (m : Mm) (Q : QV) : Prop := ∃ x d, xs = [x] ∧ datOf m x = some d ∧ Q (.d (.bool (wholeD d))) m
def sWithin (xs : List MV) (m : Mm) (Q : QV) : Prop := ∃ d lo hi, xs = [.d d, .d (.int lo), .d (.int hi)] ∧ Q (.d (.bool (wholeIn d lo hi))) m
abbrev stIsWhole : Stmt := topS 13
abbrev stWithin : Stmt := topS 14
abbrev stOutline : Stmt := topS 16
abbrev stIsRoad : Stmt := topS 17
abbrev stFirst : Stmt := topS 18
abbrev stNeigh : Stmt := topS 19
theorem scIsWhole : FnScope ["thing"] ["thing"] (defScope stIsWhole) := ⟨rfl, rfl, rfl, by decide +kernel, rfl, by decide +kernel, by decide +kernel⟩
theorem scWithin : FnScope ["thing", "least", "most"] ["thing", "least", "most"] (defScope stWithin) := ⟨rfl, rfl, rfl, by decide +kernel, rfl, by decide +kernel, by decide +kernel⟩
theorem scOutline : FnScope ["houses", "roads"] ["houses", "roads"] (defScope stOutline) := ⟨rfl, rfl, rfl, by decide +kernel, rfl, by decide +kernel, by decide +kernel⟩
theorem scIsRoad : FnScope ["houses", "row", "a", "b", "delay", "size"] ["houses", "row"] (defScope stIsRoad) := ⟨rfl, rfl, rfl, by decide +kernel, rfl, by decide +kernel, by decide +kernel⟩
theorem scFirst : FnScope ["houses", "roads", "at", "row"] ["houses", "roads"] (defScope stFirst) := ⟨rfl, rfl, rfl, by decide +kernel, rfl, by decide +kernel, by decide +kernel⟩
theorem scNeigh : FnScope ["roads", "up", "house", "found", "a", "b", "delay", "size", "is_up"] ["roads", "up", "house"] (defScope stNeigh) := ⟨rfl, rfl, rfl, by decide +kernel, rfl, by decide +kernel, by decide +kernel⟩
/-! roads as data -/
structure Row where
  a : Nat
  b : Nat
  d : Nat
  s : Nat
def rowD (r : Row) : PyData := .tuple [.int r.a, .int r.b, .int r.d, .int r.s]
def rowsD (rs : List Row) : List PyData := rs.map rowD
structure RowOk (n : Nat) (r : Row) : Prop where
  ab : r.a < r.b
  bn : r.b < n
  d1 : 1 ≤ r.d
  d2 : r.d ≤ 2
  s1 : 16 ≤ r.s
  s2 : r.s ≤ 80
def Row.lt (r q : Row) : Prop := r.a < q.a ∨ (r.a = q.a ∧ r.b < q.b)
structure Gr (n : Nat) (rs : List Row) : Prop where
  n1 : 1 ≤ n
  n8 : n ≤ 8
  len : rs.length ≤ 14
  row : ∀ r ∈ rs, RowOk n r
  inc : rs.Pairwise Row.lt
/-- the module's ints -/
structure Ci (mg : Str → Option Value) : Prop where
  HOUSES : ∃ t, mg "HOUSES" = some (.int 8 t)
  ROADS : ∃ t, mg "ROADS" = some (.int 14 t)
  DELAY : ∃ t, mg "DELAY" = some (.int 2 t)
  NARROW : ∃ t, mg "NARROW" = some (.int 16 t)
  WIDE : ∃ t, mg "WIDE" = some (.int 80 t)
  FAR : ∃ t, mg "FAR" = some (.int 24 t)
def sOutline (xs : List MV) (m : Mm) (Q : QV) : Prop := ∃ (n : Nat) (ds : List PyData), xs = [.d (.int n), .d (.tuple ds)] ∧ 1 ≤ n ∧ n ≤ 8 ∧ ds.length ≤ 14 ∧ Q (.d (.bool true)) m
def sIsRoad (xs : List MV) (m : Mm) (Q : QV) : Prop := ∃ (n : Nat) (r : Row), xs = [.d (.int n), .d (rowD r)] ∧ RowOk n r ∧ Q (.d (.bool true)) m
def sFirst (xs : List MV) (m : Mm) (Q : QV) : Prop := ∃ (n : Nat) (rs : List Row), xs = [.d (.int n), .d (.tuple (rowsD rs))] ∧ Gr n rs ∧ Q (.d .none) m
section
variable {P : Program} {w : World} {K : PySem.W.Frag} {mg : Str → Option Value} {base : Heap} {f : Addr} {fd : FuncData}
theorem ok_is_whole (F : Fun K "is_whole" "is_whole" stIsWhole f fd) (B : Bt mg) : FnOk P w K mg base CX0 1 f fd ["thing"] (spM K sIsWhole) := by
  refine fn_m F scIsWhole (fun xs m Q h => by obtain ⟨x, d, rfl, _⟩ := h; rfl) fun X Fm xs m Q ⟨x, d, ex, hd, q⟩ hs => ?_
  subst ex
  refine ws_cons ?_
  walk_at "w"
  refine ⟨d, hd, _, rfl, ?_⟩
  rw [← wholeD_eq] at q
  cases h : d.isInt with
  | false => rw [h] at q; exact .inl q
  | true =>
    rw [h] at q
    rw [if_pos rfl]
    walk_at "w"
    exact ⟨d, hd, _, rfl, .inl q⟩
theorem ok_within (F : Fun K "is_whole_within" "is_whole_within" stWithin f fd) (B : Bt mg) (C1 : Cal P w K mg base 1 "is_whole" 1 sIsWhole) : FnOk P w K mg base CX0 2 f fd ["thing", "least", "most"] (spM K sWithin) := by
  refine fn_m F scWithin (fun xs m Q h => by obtain ⟨d, lo, hi, rfl, _⟩ := h; rfl) fun X Fm xs m Q ⟨d, lo, hi, ex, q⟩ hs => ?_
  subst ex
  refine ws_cons ?_
  walk_at "w"
  refine ⟨.d d, d, rfl, rfl, _, rfl, ?_⟩
  cases d with
  | int i =>
    refine L2.iteT ?_
    walk_at "w"
    refine o_le ?_
    refine ⟨_, rfl, ?_⟩
    rw [wholeIn_int] at q
    by_cases h : lo ≤ i
    · rw [decide_eq_true h] at q ⊢
      refine L2.iteT ?_
      walk_at "w"
      exact o_le (.inl q)
    · rw [decide_eq_false h] at q ⊢
      exact L2.iteF (.inl q)
  | none => exact L2.iteF (.inl q)
  | bool _ => exact L2.iteF (.inl q)
  | str _ => exact L2.iteF (.inl q)
  | list _ => exact L2.iteF (.inl q)
  | tuple _ => exact L2.iteF (.inl q)
  | dict _ => exact L2.iteF (.inl q)
theorem within_t {i lo hi : Int} (h1 : lo ≤ i) (h2 : i ≤ hi) : wholeIn (.int i) lo hi = true := by
  rw [wholeIn_int, decide_eq_true h1, decide_eq_true h2]; rfl
theorem ok_outline (F : Fun K "is_outline" "is_outline" stOutline f fd) (B : Bt mg) (I : Ci mg) (C1 : Cal P w K mg base 2 "is_whole_within" 3 sWithin) : FnOk P w K mg base CX0 3 f fd ["houses", "roads"] (spM K sOutline) := by
  refine fn_m F scOutline (fun xs m Q h => by obtain ⟨n, ds, rfl, _⟩ := h; rfl) fun X Fm xs m Q ⟨n, ds, ex, n1, n8, hl, q⟩ hs => ?_
  subst ex
  have c1 := I.HOUSES
  have c2 := I.ROADS
  refine ws_cons ?_
  walk_at "w"
  refine ⟨_, _, _, rfl, _, rfl, ?_⟩
  rw [within_t (by omega) (by omega)]
  refine L2.iteT ?_
  walk_at "w"
  refine ⟨_, rfl, _, rfl, L2.iteT ?_⟩
  walk_at "w"
  refine ⟨_, rfl, ?_⟩
  walk_at "w"
  refine o_le ?_
  rw [decide_eq_true (by rw [List.length_map]; omega)]
  exact .inl q
theorem ok_is_road (F : Fun K "is_road" "is_road" stIsRoad f fd) (B : Bt mg) (I : Ci mg) (C1 : Cal P w K mg base 2 "is_whole_within" 3 sWithin) : FnOk P w K mg base CX0 3 f fd ["houses", "row"] (spM K sIsRoad) := by
  refine fn_m F scIsRoad (fun xs m Q h => by obtain ⟨n, ds, rfl, _⟩ := h; rfl) fun X Fm xs m Q ⟨n, r, ex, ok, q⟩ hs => ?_
  subst ex
  have c1 := I.DELAY
  have c2 := I.NARROW
  have c3 := I.WIDE
  refine ws_cons ?_
  walk_at "w"
  refine ⟨_, rfl, _, rfl, ?_⟩
  refine L2.iteF ?_
  walk_at "w"
  refine ⟨_, rfl, ?_⟩
  walk_at "w"
  refine o_neI Fm ⟨_, rfl, ?_⟩
  refine L2.iteF ?_
  walk_at "w"
  refine o_sub ?_
  walk_at "w"
  refine ⟨_, _, _, rfl, _, rfl, ?_⟩
  have := ok.ab
  have := ok.bn
  rw [within_t (by omega) (by omega)]
  refine L2.iteF ?_
  walk_at "w"
  refine o_add ?_
  walk_at "w"
  refine o_sub ?_
  walk_at "w"
  refine ⟨_, _, _, rfl, _, rfl, ?_⟩
  rw [within_t (by omega) (by omega)]
  refine L2.iteF ?_
  walk_at "w"
  refine ⟨_, _, _, rfl, _, rfl, ?_⟩
  have := ok.d1
  have := ok.d2
  rw [within_t (by omega) (by omega)]
  refine L2.iteT ?_
  walk_at "w"
  refine ⟨_, _, _, rfl, ?_⟩
  have := ok.s1
  have := ok.s2
  rw [within_t (by omega) (by omega)]
  exact .inl q
end

end Wn
set_option Elab.async false
set_option linter.all false
set_option maxRecDepth 100000
set_option maxHeartbeats 2000000
set_option autoImplicit false
set_option pp.maxSteps 600
namespace Wn
open PySem L2
local macro_rules | `(tactic| walk_at "fam") => `(tactic| first | assumption | exact Fam.blk (by assumption) _ | exact Fam.blk (Fam.blk (by assumption) _) _)
local macro_rules | `(tactic| walk_at "at") => `(tactic| with_reducible first | exact At.z | exact At.s At.z | exact At.s (At.s At.z) | exact At.s (At.s (At.s At.z)) | exact At.s (At.s (At.s (At.s At.z))) | exact At.s (At.s (At.s (At.s (At.s At.z)))) | exact At.s (At.s (At.s (At.s (At.s (At.s At.z))))) | exact At.s (At.s (At.s (At.s (At.s (At.s (At.s At.z)))))) | exact At.s (At.s (At.s (At.s (At.s (At.s (At.s (At.s At.z))))))) | exact At.s (At.s (At.s (At.s (At.s (At.s (At.s (At.s (At.s At.z)))))))) | exact At.s (At.s (At.s (At.s (At.s (At.s (At.s (At.s (At.s (At.s At.z))))))))) | exact At.s (At.s (At.s (At.s (At.s (At.s (At.s (At.s (At.s (At.s (At.s At.z)))))))))) | exact At.s (At.s (At.s (At.s (At.s (At.s (At.s (At.s (At.s (At.s (At.s (At.s At.z))))))))))) | exact At.s (At.s (At.s (At.s (At.s (At.s (At.s (At.s (At.s (At.s (At.s (At.s (At.s At.z)))))))))))) | exact At.s (At.s (At.s (At.s (At.s (At.s (At.s (At.s (At.s (At.s (At.s (At.s (At.s (At.s At.z))))))))))))) | exact At.s (At.s (At.s (At.s (At.s (At.s (At.s (At.s (At.s (At.s (At.s (At.s (At.s (At.s (At.s At.z)))))))))))))) | exact At.s (At.s (At.s (At.s (At.s (At.s (At.s (At.s (At.s (At.s (At.s (At.s (At.s (At.s (At.s (At.s At.z))))))))))))))) | exact At.s (At.s (At.s (At.s (At.s (At.s (At.s (At.s (At.s (At.s (At.s (At.s (At.s (At.s (At.s (At.s (At.s At.z)))))))))))))))) | exact At.s (At.s (At.s (At.s (At.s (At.s (At.s (At.s (At.s (At.s (At.s (At.s (At.s (At.s (At.s (At.s (At.s (At.s At.z))))))))))))))))) | exact At.s (At.s (At.s (At.s (At.s (At.s (At.s (At.s (At.s (At.s (At.s (At.s (At.s (At.s (At.s (At.s (At.s (At.s (At.s At.z)))))))))))))))))) | exact At.s (At.s (At.s (At.s (At.s (At.s (At.s (At.s (At.s (At.s (At.s (At.s (At.s (At.s (At.s (At.s (At.s (At.s (At.s (At.s At.z))))))))))))))))))) | exact At.s (At.s (At.s (At.s (At.s (At.s (At.s (At.s (At.s (At.s (At.s (At.s (At.s (At.s (At.s (At.s (At.s (At.s (At.s (At.s (At.s At.z)))))))))))))))))))))
local macro_rules | `(tactic| walk_at "call") => `(tactic| first
  | ((with_reducible show We _ _ (.Call (.Name "len" _) _ _ _) _ _ _); refine b_len (by walk_at "fam") (by assumption) ?_)
  | ((with_reducible show We _ _ (.Call (.Name "isinstance" _) [_, .Name "int" _] _ _) _ _ _); refine b_isiInt (by walk_at "fam") (by assumption) ?_)
  | ((with_reducible show We _ _ (.Call (.Name "isinstance" _) [_, .Name "bool" _] _ _) _ _ _); refine b_isiBool (by walk_at "fam") (by assumption) ?_)
  | ((with_reducible show We _ _ (.Call (.Name "isinstance" _) [_, .Name "tuple" _] _ _) _ _ _); refine b_isiTup (by walk_at "fam") (by assumption) ?_)
  | ((with_reducible show We _ _ (.Call (.Name "abs" _) _ _ _) _ _ _); refine b_abs (by walk_at "fam") (by assumption) ?_)
  | ((with_reducible show We _ _ (.Call (.Name "int" _) _ _ _) _ _ _); refine b_intB (by walk_at "fam") (by assumption) ?_)
  | ((with_reducible show We _ _ (.Call (.Name "tuple" _) _ _ _) _ _ _); refine b_tup (by walk_at "fam") (by assumption) ?_)
  | ((with_reducible show We _ _ (.Call (.Name "list" _) [.Call (.Name "range" _) _ _ _] _ _) _ _ _); refine we_listRg (by walk_at "fam") (Bt.list (by assumption)) (Bt.range (by assumption)) ?_)
  | ((with_reducible show We _ _ (.Call (.Name "list" _) _ _ _) _ _ _); refine b_lst (by walk_at "fam") (by assumption) ?_)
  | ((with_reducible show We _ _ (.Call (.Name "min" _) [_, _] _ _) _ _ _); refine b_min2 (by walk_at "fam") (by assumption) ?_)
  | ((with_reducible show We _ _ (.Call (.Name "min" _) [_] [_] _) _ _ _); refine we_minDD (by walk_at "fam") (Bt.min (by assumption)) ?_)
  | ((with_reducible show We _ _ (.Call (.Name "min" _) [_] [] _) _ _ _); refine b_min1 (by walk_at "fam") (by assumption) ?_)
  | ((with_reducible show We _ _ (.Call (.Name "sorted" _) _ _ _) _ _ _); refine b_sorted (by walk_at "fam") (by assumption) ?_)
  | ((with_reducible show We _ _ (.Call (.Attribute _ "append" _) _ _ _) _ _ _); refine we_append (by walk_at "fam") ?_)
  | ((with_reducible show We _ _ (.Call (.Name _ _) _ _ _) _ _ _); refine we_call (by walk_at "fam") (by assumption) (by decide) ?_)
  | ((with_reducible show We _ _ (.Call (.Name _ _) _ _ _) _ _ _); refine we_make (by walk_at "fam") (by assumption) (by decide) ?_)
  | ((with_reducible show We _ _ (.Call (.Attribute _ _ _) (_ :: _) _ _) _ _ _); refine we_meth (by walk_at "fam") (by assumption) (by decide) ?_)
  | ((with_reducible show We _ _ (.Call (.Attribute _ _ _) [] _ _) _ _ _); refine we_meth0 (by walk_at "fam") (by assumption) (by decide) ?_))
local macro_rules | `(tactic| walk_at "e") => `(tactic| first
  | ((with_reducible show We _ _ (.Name _ _) _ _ _); first | refine we_varA (by walk_at "fam") (by walk_at "at") (by rfl) ?_ | refine we_gint (by walk_at "fam") (by assumption) ?_)
  | ((with_reducible show We _ _ (.Constant _ _ _) _ _ _); first | refine we_int ?_ | refine we_bl ?_ | refine we_non ?_ | refine we_str ?_)
  | ((with_reducible show We _ _ (.BinOp _ _ _ _) _ _ _); refine we_bin ?_)
  | ((with_reducible show We _ _ (.Compare _ [_] _ _) _ _ _); refine we_cmp ?_)
  | ((with_reducible show We _ _ (.Compare _ [_, _] _ _) _ _ _); refine we_chain ?_)
  | ((with_reducible show We _ _ (.BoolOp _ [_] _) _ _ _); refine we_one ?_)
  | ((with_reducible show We _ _ (.BoolOp .And _ _) _ _ _); refine we_and ?_)
  | ((with_reducible show We _ _ (.BoolOp .Or _ _) _ _ _); refine we_or ?_)
  | ((with_reducible show We _ _ (.UnaryOp .Not _ _) _ _ _); refine we_not ?_)
  | ((with_reducible show We _ _ (.IfExp _ _ _ _) _ _ _); refine we_ifExp ?_)
  | ((with_reducible show We _ _ (.Tuple _ _ _) _ _ _); refine we_tup ?_)
  | ((with_reducible show We _ _ (.List _ _) _ _ _); refine we_lst ?_)
  | ((with_reducible show We _ _ (.Subscript _ (.Slice _ _ _ _) _) _ _ _); refine we_slice (by walk_at "fam") ?_)
  | ((with_reducible show We _ _ (.Subscript _ _ _) _ _ _); refine we_ix ?_)
  | ((with_reducible show We _ _ (.Attribute _ _ _) _ _ _); refine we_fld (by walk_at "fam") ?_)
  | walk_at "call"
  | ((with_reducible show Wo _ _ none _ _ _); refine wo_none ?_)
  | ((with_reducible show Wo _ _ (some _) _ _ _); refine wo_some ?_)
  | ((with_reducible show Wr _ _ [] _ _ _); refine wr_nil ?_)
  | ((with_reducible show Wr _ _ (_ :: _) _ _ _); refine wr_cons ?_)
  | ((with_reducible show Wt _ _ (.UnaryOp .Not _ _) _ _ _); refine wt_not ?_)
  | ((with_reducible show Wt _ _ (.BoolOp .And _ _) _ _ _); refine wt_w (ww_and ?_))
  | ((with_reducible show Wt _ _ (.BoolOp .Or _ _) _ _ _); refine wt_w (ww_or ?_))
  | ((with_reducible show Wt _ _ (.Compare _ [_] _ _) _ _ _); refine wt_cmp ?_)
  | ((with_reducible show Wt _ _ _ _ _ _); refine wt_val ?_)
  | ((with_reducible show Ww _ _ (.BoolOp .And [_] _) _ _ _); refine ww_and1 ?_)
  | ((with_reducible show Ww _ _ (.BoolOp .Or [_] _) _ _ _); refine ww_or1 ?_)
  | ((with_reducible show Ww _ _ (.BoolOp .And _ _) _ _ _); refine ww_and ?_)
  | ((with_reducible show Ww _ _ (.BoolOp .Or _ _) _ _ _); refine ww_or ?_)
  | ((with_reducible show Ws _ _ [] _ _ _); refine ws_nil ?_)
  | ((with_reducible show Ws _ _ (_ :: _) _ _ _); refine ws_cons ?_)
  | ((with_reducible show Ws1 _ _ (.Return (some _) _) _ _ _); refine ws_ret ?_)
  | ((with_reducible show Ws1 _ _ (.If _ _ _ _) _ _ _); refine ws_if ?_)
  | ((with_reducible show Ws1 _ _ (.Expr _ _) _ _ _); refine ws_expr ?_)
  | ((with_reducible show Ws1 _ _ (.Assign [.Name _ _] (.ListComp _ _ _ _) _) _ _ _); fail)
  | ((with_reducible show Ws1 _ _ (.Assign [.Name _ _] _ _) _ _ _); refine ws_setA (by walk_at "fam") (by walk_at "at") ?_)
  | ((with_reducible show Ws1 _ _ (.Assign [.Attribute _ _ _] _ _) _ _ _); refine ws_fld (by walk_at "fam") ?_)
  | ((with_reducible show Ws1 _ _ (.Assign [_] _ _) _ _ _); refine ws_asg ?_)
  | ((with_reducible show Wts _ _ [] _ _ _); refine wts_nil ?_)
  | ((with_reducible show Wts _ _ [_] _ _ _); refine wts_one ?_)
  | ((with_reducible show Wg _ _ _ (.Name _ _) _ _ _ _); refine wg_nameA (by walk_at "fam") (by walk_at "at") ?_)
  | ((with_reducible show Wg _ _ _ (.Tuple _ _ _) _ _ _ _); refine wg_tup (by walk_at "fam") ?_)
  | ((with_reducible show Wg _ _ _ (.Subscript _ _ _) _ _ _ _); refine wg_sub ?_)
  | refine wgs_nil ?_ | refine wgs_cons ?_)
local macro_rules | `(tactic| walk_at "w") => `(tactic| repeat walk_at "e")
section
variable {P : Program} {w : World} {K : PySem.W.Frag} {mg : Str → Option Value} {base : Heap} {f : Addr} {fd : FuncData}
theorem rowsD_get {rs : List Row} {i : Nat} {d : PyData} (h : (rowsD rs)[i]? = some d) : ∃ r, rs[i]? = some r ∧ d = rowD r := by
  unfold rowsD at h
  rw [List.getElem?_map] at h
  cases e : rs[i]? with
  | none => rw [e] at h; cases h
  | some r => rw [e] at h; exact ⟨r, rfl, (Option.some.inj h).symm⟩
theorem rowsD_at {rs : List Row} {i : Nat} {r : Row} (h : rs[i]? = some r) : ((rowsD rs).map MV.d)[i]? = some (.d (rowD r)) := by
  unfold rowsD; rw [List.map_map, List.getElem?_map, h]; rfl
theorem ok_first (F : Fun K "first_wrong_road" "first_wrong_road" stFirst f fd) (B : Bt mg) (C1 : Cal P w K mg base 3 "is_road" 2 sIsRoad) : FnOk P w K mg base CX0 4 f fd ["houses", "roads"] (spM K sFirst) := by
  refine fn_m F scFirst (fun xs m Q h => by obtain ⟨n, ds, rfl, _⟩ := h; rfl) fun X Fm xs m Q ⟨n, rs, ex, gr, q⟩ hs => ?_
  subst ex
  refine ws_cons (ws_for Fm (wi_enum Fm B.enumerate ?_))
  walk_at "w"
  refine ⟨_, rowsD rs, rfl, rfl, fun i ρ' m' => m' = m ∧ ∃ u v, ρ' = [some (.d (.int n)), some (.d (.tuple (rowsD rs))), u, v], ⟨rfl, none, none, rfl⟩, fun i ρ' m' _ h => by rw [h.1]; rfl, ?_, ?_⟩
  · rintro i x ρ' m' hx ⟨rfl, u, v, rfl⟩
    obtain ⟨d, hd, rfl⟩ := enumD_some hx
    obtain ⟨r, hr, rfl⟩ := rowsD_get hd
    walk_at "w"
    refine ⟨n, r, rfl, gr.row r (List.mem_of_getElem? hr), _, rfl, L2.iteF ?_⟩
    walk_at "w"
    refine o_gt ⟨_, rfl, ?_⟩
    by_cases h0 : 0 < i
    · rw [decide_eq_true (show (0 : Int) < (i : Int) by omega)]
      refine L2.iteT ?_
      walk_at "w"
      refine ⟨_, rfl, .inl ⟨_, rfl, by show ¬ (HT.sIx 4 0 none = 0 ∧ HT.sIx 4 4 (some 2) = 4); decide, ?_⟩⟩
      walk_at "w"
      refine o_sub ?_
      obtain ⟨q', hq⟩ : ∃ q', rs[i - 1]? = some q' := ⟨rs[i - 1]'(by have := (List.getElem?_eq_some_iff.mp hr).1; omega), List.getElem?_eq_getElem _⟩
      refine ix_w Fm (y := .d (rowD q')) rfl (atI_of (rowsD_at hq) (by omega)) ?_
      walk_at "w"
      refine ⟨_, rfl, .inl ⟨_, rfl, by show ¬ (HT.sIx 4 0 none = 0 ∧ HT.sIx 4 4 (some 2) = 4); decide, ?_⟩⟩
      have lt : Row.lt q' r := by
        have h1 := List.pairwise_iff_getElem.mp gr.inc (i - 1) i (by have := (List.getElem?_eq_some_iff.mp hr).1; omega) ((List.getElem?_eq_some_iff.mp hr).1) (by omega)
        rw [(List.getElem?_eq_some_iff.mp hr).2, (List.getElem?_eq_some_iff.mp hq).2] at h1
        exact h1
      refine o_leD Fm (d := .tuple [.int r.a, .int r.b]) (e := .tuple [.int q'.a, .int q'.b]) rfl rfl rfl (fun z => by cases z) (by simp [PyData.depth, PyData.depthAll]) ⟨_, rfl, ?_⟩
      rw [PySem.W.dataLt_ii, decide_eq_true (show ((q'.a : Int) < r.a ∨ ((q'.a : Int) = r.a ∧ (q'.b : Int) < r.b)) by rcases lt with h | h <;> omega)]
      refine L2.iteF ?_
      walk_at "w"
      exact ⟨rfl, _, _, rfl⟩
    · rw [decide_eq_false (show ¬ (0 : Int) < (i : Int) by omega)]
      refine L2.iteF ?_
      refine L2.iteF ?_
      walk_at "w"
      exact ⟨rfl, _, _, rfl⟩
  · rintro ρ' m' ⟨rfl, u, v, rfl⟩
    walk_at "w"
    exact .inl q
/-! the neighbours of a house -/
structure Tri where
  h : Nat
  d : Nat
  s : Nat
def triD (t : Tri) : PyData := .tuple [.int t.h, .int t.d, .int t.s]
def near (h : Nat) : List Row → List Bool → List Tri
  | r :: rs, u :: us => if u = true ∧ r.a = h then ⟨r.b, r.d, r.s⟩ :: near h rs us else if u = true ∧ r.b = h then ⟨r.a, r.d, r.s⟩ :: near h rs us else near h rs us
  | _, _ => []
theorem near_take {h : Nat} : ∀ (rs : List Row) (us : List Bool) (i : Nat) (r : Row) (u : Bool), rs[i]? = some r → us[i]? = some u →
    near h (rs.take (i + 1)) (us.take (i + 1)) = near h (rs.take i) (us.take i) ++ (if u = true ∧ r.a = h then [⟨r.b, r.d, r.s⟩] else if u = true ∧ r.b = h then [⟨r.a, r.d, r.s⟩] else [])
  | q :: rs, v :: us, 0, r, u, h1, h2 => by
    simp at h1 h2; subst h1 h2
    simp [near]
  | q :: rs, v :: us, i + 1, r, u, h1, h2 => by
    have ih := near_take (h := h) rs us i r u (by simpa using h1) (by simpa using h2)
    simp only [List.take_succ_cons, near] at ih ⊢
    rw [ih]
    split
    · rfl
    · split <;> rfl
  | [], _, _, _, _, h1, _ => by simp at h1
  | _ :: _, [], _, _, _, _, h2 => by simp at h2
theorem near_len {h : Nat} : ∀ (rs : List Row) (us : List Bool), (near h rs us).length ≤ rs.length
  | [], us => by unfold near; exact Nat.le_refl 0
  | _ :: _, [] => by unfold near; exact Nat.zero_le _
  | r :: rs, u :: us => by
    have ih := near_len (h := h) rs us
    unfold near
    split
    · simp; exact ih
    · split
      · simp; exact ih
      · exact Nat.le_succ_of_le ih
def blsD (us : List Bool) : List MV := us.map fun b => .d (.bool b)
/-- roads, up, house: the neighbours, in some order -/
def sNeigh (xs : List MV) (m : Mm) (Q : QV) : Prop := ∃ (rs : List Row) (y : MV) (us : List Bool) (h : Nat), xs = [.d (.tuple (rowsD rs)), y, .d (.int h)] ∧ seqOf m y = some (blsD us) ∧ rs.length ≤ 14 ∧ us.length = rs.length ∧
  ∀ ns : List Tri, ns.Perm (near h rs us) → Q (.d (.tuple (ns.map triD))) m
theorem perm_map_inv {α β : Type} {f : α → β} (hf : ∀ a b, f a = f b → a = b) : ∀ {l : List β} {as : List α}, l.Perm (as.map f) → ∃ bs : List α, bs.Perm as ∧ l = bs.map f := by
  intro l as h
  have hm : ∀ x ∈ l, ∃ a, f a = x := fun x hx => by
    obtain ⟨a, _, e⟩ := List.mem_map.mp (h.mem_iff.mp hx)
    exact ⟨a, e⟩
  have : ∃ bs : List α, l = bs.map f := by
    clear h
    induction l with
    | nil => exact ⟨[], rfl⟩
    | cons x l ih =>
      obtain ⟨a, e⟩ := hm x List.mem_cons_self
      obtain ⟨bs, e2⟩ := ih fun y hy => hm y (List.mem_cons_of_mem _ hy)
      exact ⟨a :: bs, by rw [e2]; simp [e]⟩
  obtain ⟨bs, e⟩ := this
  subst e
  refine ⟨bs, ?_, rfl⟩
  -- a left inverse on the image
  have hinv : ∃ g : β → Option α, ∀ a, g (f a) = some a := by
    refine ⟨fun b => (open Classical in if q : ∃ a, f a = b then some q.choose else none), fun a => ?_⟩
    have q : ∃ a', f a' = f a := ⟨a, rfl⟩
    simp only [q, dite_true]
    rw [hf _ _ q.choose_spec]
  obtain ⟨g, hg⟩ := hinv
  have h2 := h.filterMap g
  simpa [List.filterMap_map, Function.comp_def, hg] using h2
theorem triD_inj (a b : Tri) (h : triD a = triD b) : a = b := by
  cases a; cases b
  simp [triD] at h
  simp; omega
theorem blsD_eq (us : List Bool) : blsD us = (us.map PyData.bool).map MV.d := by simp [blsD]
theorem zip_some {ds es : List PyData} {i : Nat} {x : MV} (h : (List.zipWith (fun d e => MV.d (.tuple [d, e])) ds es)[i]? = some x) : ∃ d e, ds[i]? = some d ∧ es[i]? = some e ∧ x = .d (.tuple [d, e]) := by
  rw [List.getElem?_zipWith] at h
  cases h1 : ds[i]? with
  | none => rw [h1] at h; cases h
  | some d =>
    cases h2 : es[i]? with
    | none => rw [h1, h2] at h; cases h
    | some e => rw [h1, h2] at h; exact ⟨d, e, rfl, rfl, (Option.some.inj h).symm⟩
theorem bools_get {us : List Bool} {i : Nat} {e : PyData} (h : (us.map PyData.bool)[i]? = some e) : ∃ u, us[i]? = some u ∧ e = .bool u := by
  rw [List.getElem?_map] at h
  cases h1 : us[i]? with
  | none => rw [h1] at h; cases h
  | some u => rw [h1] at h; exact ⟨u, rfl, (Option.some.inj h).symm⟩
theorem ok_neigh (F : Fun K "neighbours_by" "neighbours_by" stNeigh f fd) (B : Bt mg) : FnOk P w K mg base CX0 1 f fd ["roads", "up", "house"] (spM K sNeigh) := by
  refine fn_m F scNeigh (fun xs m Q h => by obtain ⟨_, _, _, _, rfl, _⟩ := h; rfl) fun X Fm xs m Q ⟨rs, y, us, h, ex, hy, hl, hu, q⟩ hs => ?_
  subst ex
  rw [blsD_eq] at hy
  refine ws_cons ?_
  walk_at "w"
  refine ⟨by decide, .inr ?_⟩
  refine ws_cons (ws_for Fm (wi_zip Fm B.zip ?_))
  walk_at "w"
  refine ⟨_, _, rowsD rs, us.map PyData.bool, rfl, rfl, seqOf_app hy, fun i ρ' m' => m' = m ++ [.lst ((near h (rs.take i) (us.take i)).map fun t => .d (triD t))] ∧ ∃ a b c d e, ρ' = [some (.d (.tuple (rowsD rs))), some y, some (.d (.int h)), some (.r m.length), a, b, c, d, e],
    ⟨by simp [near], _, _, _, _, _, rfl⟩, fun i ρ' m' _ hI => by rw [hI.1]; exact ⟨rfl, seqOf_app hy⟩, ?_, ?_⟩
  · rintro i x ρ' m' hx ⟨rfl, a, b, c, d, e, rfl⟩
    obtain ⟨d1, d2, h1, h2, rfl⟩ := zip_some hx
    obtain ⟨r, hr, rfl⟩ := rowsD_get h1
    obtain ⟨u, hu', rfl⟩ := bools_get h2
    have step := near_take (h := h) rs us i r u hr hu'
    have lim : (near h (rs.take i) (us.take i)).length < 100000 := by have := near_len (h := h) (rs.take i) (us.take i); rw [List.length_take] at this; omega
    walk_at "w"
    refine ⟨_, rfl, ?_⟩
    cases u with
    | true =>
      refine L2.iteT ?_
      walk_at "w"
      refine o_eqI Fm ⟨_, rfl, ?_⟩
      by_cases ha : r.a = h
      · rw [decide_eq_true (show (r.a : Int) = (h : Int) by omega)]
        refine L2.iteT ?_
        walk_at "w"
        refine ⟨_, _, rfl, last_get _ _, ?_⟩
        walk_at "w"
        refine ⟨[.int r.b, .int r.d, .int r.s], rfl, by simp, _, last_get _ _, by simpa using lim, ?_⟩
        walk_at "w"
        refine ⟨?_, _, _, _, _, _, rfl⟩
        rw [last_set, step, if_pos ⟨rfl, ha⟩, List.map_append] <;> rfl
      · rw [decide_eq_false (show ¬ (r.a : Int) = (h : Int) by omega)]
        refine L2.iteF ?_
        walk_at "w"
        refine ⟨_, rfl, ?_⟩
        refine L2.iteT ?_
        walk_at "w"
        refine o_eqI Fm ⟨_, rfl, ?_⟩
        by_cases hb : r.b = h
        · rw [decide_eq_true (show (r.b : Int) = (h : Int) by omega)]
          refine L2.iteT ?_
          walk_at "w"
          refine ⟨_, _, rfl, last_get _ _, ?_⟩
          walk_at "w"
          refine ⟨[.int r.a, .int r.d, .int r.s], rfl, by simp, _, last_get _ _, by simpa using lim, ?_⟩
          walk_at "w"
          refine ⟨?_, _, _, _, _, _, rfl⟩
          rw [last_set, step, if_neg (fun z => ha z.2), if_pos ⟨rfl, hb⟩, List.map_append] <;> rfl
        · rw [decide_eq_false (show ¬ (r.b : Int) = (h : Int) by omega)]
          refine L2.iteF ?_
          walk_at "w"
          refine ⟨?_, _, _, _, _, _, rfl⟩
          rw [step, if_neg (fun z => ha z.2), if_neg (fun z => hb z.2), List.append_nil]
    | false =>
      refine L2.iteF (L2.iteF ?_)
      walk_at "w"
      refine ⟨_, rfl, ?_⟩
      refine L2.iteF (L2.iteF ?_)
      walk_at "w"
      refine ⟨?_, _, _, _, _, _, rfl⟩
      rw [step, if_neg (fun z => by cases z.1), if_neg (fun z => by cases z.1), List.append_nil]
  · rintro ρ' m' ⟨rfl, a, b, c, d, e, rfl⟩
    have ln : (List.zipWith (fun d e => MV.d (.tuple [d, e])) (rowsD rs) (us.map PyData.bool)).length = rs.length := by simp [rowsD, hu]
    have e1 : rs.take rs.length = rs := List.take_length
    have e2 : us.take rs.length = us := by rw [← hu]; exact List.take_length
    rw [ln, e1, e2]
    walk_at "w"
    refine ⟨(near h rs us).map triD, by rw [lstOf_r (last_get _ _), List.map_map]; rfl, ?_, ?_, ?_, ?_, .inl ⟨_, rfl, ?_⟩⟩
    · intro d hd d' hd'
      obtain ⟨t, _, rfl⟩ := List.mem_map.mp hd
      obtain ⟨t', _, rfl⟩ := List.mem_map.mp hd'
      rfl
    · exact .inl fun d hd => by
        obtain ⟨t, _, rfl⟩ := List.mem_map.mp hd
        exact ⟨_, _, rfl⟩
    · rw [List.length_map]; have := near_len (h := h) rs us; omega
    · intro d hd
      obtain ⟨t, _, rfl⟩ := List.mem_map.mp hd
      simp [triD, PyData.depth, PyData.depthAll]
    · refine ⟨_, rfl, ?_⟩
      obtain ⟨ns, hp, en⟩ := perm_map_inv triD_inj (List.mergeSort_perm ((near h rs us).map triD) (PySem.W.dataLe false id))
      refine ret_drop hs trivial ?_
      rw [show sortD ((near h rs us).map triD) = ns.map triD from en]
      exact q ns hp
end

end Wn
set_option Elab.async false
set_option linter.all false
set_option maxRecDepth 100000
set_option maxHeartbeats 2000000
set_option autoImplicit false
set_option pp.maxSteps 600
namespace Wn
open PySem L2
local macro_rules | `(tactic| walk_at "fam") => `(tactic| first | assumption | exact Fam.blk (by assumption) _ | exact Fam.blk (Fam.blk (by assumption) _) _)
local macro_rules | `(tactic| walk_at "at") => `(tactic| with_reducible first | exact At.z | exact At.s At.z | exact At.s (At.s At.z) | exact At.s (At.s (At.s At.z)) | exact At.s (At.s (At.s (At.s At.z))) | exact At.s (At.s (At.s (At.s (At.s At.z)))) | exact At.s (At.s (At.s (At.s (At.s (At.s At.z))))) | exact At.s (At.s (At.s (At.s (At.s (At.s (At.s At.z)))))) | exact At.s (At.s (At.s (At.s (At.s (At.s (At.s (At.s At.z))))))) | exact At.s (At.s (At.s (At.s (At.s (At.s (At.s (At.s (At.s At.z)))))))) | exact At.s (At.s (At.s (At.s (At.s (At.s (At.s (At.s (At.s (At.s At.z))))))))) | exact At.s (At.s (At.s (At.s (At.s (At.s (At.s (At.s (At.s (At.s (At.s At.z)))))))))) | exact At.s (At.s (At.s (At.s (At.s (At.s (At.s (At.s (At.s (At.s (At.s (At.s At.z))))))))))) | exact At.s (At.s (At.s (At.s (At.s (At.s (At.s (At.s (At.s (At.s (At.s (At.s (At.s At.z)))))))))))) | exact At.s (At.s (At.s (At.s (At.s (At.s (At.s (At.s (At.s (At.s (At.s (At.s (At.s (At.s At.z))))))))))))) | exact At.s (At.s (At.s (At.s (At.s (At.s (At.s (At.s (At.s (At.s (At.s (At.s (At.s (At.s (At.s At.z)))))))))))))) | exact At.s (At.s (At.s (At.s (At.s (At.s (At.s (At.s (At.s (At.s (At.s (At.s (At.s (At.s (At.s (At.s At.z))))))))))))))) | exact At.s (At.s (At.s (At.s (At.s (At.s (At.s (At.s (At.s (At.s (At.s (At.s (At.s (At.s (At.s (At.s (At.s At.z)))))))))))))))) | exact At.s (At.s (At.s (At.s (At.s (At.s (At.s (At.s (At.s (At.s (At.s (At.s (At.s (At.s (At.s (At.s (At.s (At.s At.z))))))))))))))))) | exact At.s (At.s (At.s (At.s (At.s (At.s (At.s (At.s (At.s (At.s (At.s (At.s (At.s (At.s (At.s (At.s (At.s (At.s (At.s At.z)))))))))))))))))) | exact At.s (At.s (At.s (At.s (At.s (At.s (At.s (At.s (At.s (At.s (At.s (At.s (At.s (At.s (At.s (At.s (At.s (At.s (At.s (At.s At.z))))))))))))))))))) | exact At.s (At.s (At.s (At.s (At.s (At.s (At.s (At.s (At.s (At.s (At.s (At.s (At.s (At.s (At.s (At.s (At.s (At.s (At.s (At.s (At.s At.z)))))))))))))))))))))
local macro_rules | `(tactic| walk_at "call") => `(tactic| first
  | ((with_reducible show We _ _ (.Call (.Name "len" _) _ _ _) _ _ _); refine b_len (by walk_at "fam") (by assumption) ?_)
  | ((with_reducible show We _ _ (.Call (.Name "isinstance" _) [_, .Name "int" _] _ _) _ _ _); refine b_isiInt (by walk_at "fam") (by assumption) ?_)
  | ((with_reducible show We _ _ (.Call (.Name "isinstance" _) [_, .Name "bool" _] _ _) _ _ _); refine b_isiBool (by walk_at "fam") (by assumption) ?_)
  | ((with_reducible show We _ _ (.Call (.Name "isinstance" _) [_, .Name "tuple" _] _ _) _ _ _); refine b_isiTup (by walk_at "fam") (by assumption) ?_)
  | ((with_reducible show We _ _ (.Call (.Name "abs" _) _ _ _) _ _ _); refine b_abs (by walk_at "fam") (by assumption) ?_)
  | ((with_reducible show We _ _ (.Call (.Name "int" _) _ _ _) _ _ _); refine b_intB (by walk_at "fam") (by assumption) ?_)
  | ((with_reducible show We _ _ (.Call (.Name "tuple" _) _ _ _) _ _ _); refine b_tup (by walk_at "fam") (by assumption) ?_)
  | ((with_reducible show We _ _ (.Call (.Name "list" _) [.Call (.Name "range" _) _ _ _] _ _) _ _ _); refine we_listRg (by walk_at "fam") (Bt.list (by assumption)) (Bt.range (by assumption)) ?_)
  | ((with_reducible show We _ _ (.Call (.Name "list" _) _ _ _) _ _ _); refine b_lst (by walk_at "fam") (by assumption) ?_)
  | ((with_reducible show We _ _ (.Call (.Name "min" _) [_, _] _ _) _ _ _); refine b_min2 (by walk_at "fam") (by assumption) ?_)
  | ((with_reducible show We _ _ (.Call (.Name "min" _) [_] [_] _) _ _ _); refine we_minDD (by walk_at "fam") (Bt.min (by assumption)) ?_)
  | ((with_reducible show We _ _ (.Call (.Name "min" _) [_] [] _) _ _ _); refine b_min1 (by walk_at "fam") (by assumption) ?_)
  | ((with_reducible show We _ _ (.Call (.Name "sorted" _) _ _ _) _ _ _); refine b_sorted (by walk_at "fam") (by assumption) ?_)
  | ((with_reducible show We _ _ (.Call (.Attribute _ "append" _) _ _ _) _ _ _); refine we_append (by walk_at "fam") ?_)
  | ((with_reducible show We _ _ (.Call (.Name _ _) _ _ _) _ _ _); refine we_call (by walk_at "fam") (by assumption) (by decide) ?_)
  | ((with_reducible show We _ _ (.Call (.Name _ _) _ _ _) _ _ _); refine we_make (by walk_at "fam") (by assumption) (by decide) ?_)
  | ((with_reducible show We _ _ (.Call (.Attribute _ _ _) (_ :: _) _ _) _ _ _); refine we_meth (by walk_at "fam") (by assumption) (by decide) ?_)
  | ((with_reducible show We _ _ (.Call (.Attribute _ _ _) [] _ _) _ _ _); refine we_meth0 (by walk_at "fam") (by assumption) (by decide) ?_))
local macro_rules | `(tactic| walk_at "e") => `(tactic| first
  | ((with_reducible show We _ _ (.Name _ _) _ _ _); first | refine we_varA (by walk_at "fam") (by walk_at "at") (by rfl) ?_ | refine we_gint (by walk_at "fam") (by assumption) ?_)
  | ((with_reducible show We _ _ (.Constant _ _ _) _ _ _); first | refine we_int ?_ | refine we_bl ?_ | refine we_non ?_ | refine we_str ?_)
  | ((with_reducible show We _ _ (.BinOp _ _ _ _) _ _ _); refine we_bin ?_)
  | ((with_reducible show We _ _ (.Compare _ [_] _ _) _ _ _); refine we_cmp ?_)
  | ((with_reducible show We _ _ (.Compare _ [_, _] _ _) _ _ _); refine we_chain ?_)
  | ((with_reducible show We _ _ (.BoolOp _ [_] _) _ _ _); refine we_one ?_)
  | ((with_reducible show We _ _ (.BoolOp .And _ _) _ _ _); refine we_and ?_)
  | ((with_reducible show We _ _ (.BoolOp .Or _ _) _ _ _); refine we_or ?_)
  | ((with_reducible show We _ _ (.UnaryOp .Not _ _) _ _ _); refine we_not ?_)
  | ((with_reducible show We _ _ (.IfExp _ _ _ _) _ _ _); refine we_ifExp ?_)
  | ((with_reducible show We _ _ (.Tuple _ _ _) _ _ _); refine we_tup ?_)
  | ((with_reducible show We _ _ (.List _ _) _ _ _); refine we_lst ?_)
  | ((with_reducible show We _ _ (.Subscript _ (.Slice _ _ _ _) _) _ _ _); refine we_slice (by walk_at "fam") ?_)
  | ((with_reducible show We _ _ (.Subscript _ _ _) _ _ _); refine we_ix ?_)
  | ((with_reducible show We _ _ (.Attribute _ _ _) _ _ _); refine we_fld (by walk_at "fam") ?_)
  | walk_at "call"
  | ((with_reducible show Wo _ _ none _ _ _); refine wo_none ?_)
  | ((with_reducible show Wo _ _ (some _) _ _ _); refine wo_some ?_)
  | ((with_reducible show Wr _ _ [] _ _ _); refine wr_nil ?_)
  | ((with_reducible show Wr _ _ (_ :: _) _ _ _); refine wr_cons ?_)
  | ((with_reducible show Wt _ _ (.UnaryOp .Not _ _) _ _ _); refine wt_not ?_)
  | ((with_reducible show Wt _ _ (.BoolOp .And _ _) _ _ _); refine wt_w (ww_and ?_))
  | ((with_reducible show Wt _ _ (.BoolOp .Or _ _) _ _ _); refine wt_w (ww_or ?_))
  | ((with_reducible show Wt _ _ (.Compare _ [_] _ _) _ _ _); refine wt_cmp ?_)
  | ((with_reducible show Wt _ _ _ _ _ _); refine wt_val ?_)
  | ((with_reducible show Ww _ _ (.BoolOp .And [_] _) _ _ _); refine ww_and1 ?_)
  | ((with_reducible show Ww _ _ (.BoolOp .Or [_] _) _ _ _); refine ww_or1 ?_)
  | ((with_reducible show Ww _ _ (.BoolOp .And _ _) _ _ _); refine ww_and ?_)
  | ((with_reducible show Ww _ _ (.BoolOp .Or _ _) _ _ _); refine ww_or ?_)
  | ((with_reducible show Ws _ _ [] _ _ _); refine ws_nil ?_)
  | ((with_reducible show Ws _ _ (_ :: _) _ _ _); refine ws_cons ?_)
  | ((with_reducible show Ws1 _ _ (.Return (some _) _) _ _ _); refine ws_ret ?_)
  | ((with_reducible show Ws1 _ _ (.If _ _ _ _) _ _ _); refine ws_if ?_)
  | ((with_reducible show Ws1 _ _ (.Expr _ _) _ _ _); refine ws_expr ?_)
  | ((with_reducible show Ws1 _ _ (.Assign [.Name _ _] (.ListComp _ _ _ _) _) _ _ _); fail)
  | ((with_reducible show Ws1 _ _ (.Assign [.Name _ _] _ _) _ _ _); refine ws_setA (by walk_at "fam") (by walk_at "at") ?_)
  | ((with_reducible show Ws1 _ _ (.Assign [.Attribute _ _ _] _ _) _ _ _); refine ws_fld (by walk_at "fam") ?_)
  | ((with_reducible show Ws1 _ _ (.Assign [_] _ _) _ _ _); refine ws_asg ?_)
  | ((with_reducible show Wts _ _ [] _ _ _); refine wts_nil ?_)
  | ((with_reducible show Wts _ _ [_] _ _ _); refine wts_one ?_)
  | ((with_reducible show Wg _ _ _ (.Name _ _) _ _ _ _); refine wg_nameA (by walk_at "fam") (by walk_at "at") ?_)
  | ((with_reducible show Wg _ _ _ (.Tuple _ _ _) _ _ _ _); refine wg_tup (by walk_at "fam") ?_)
  | ((with_reducible show Wg _ _ _ (.Subscript _ _ _) _ _ _ _); refine wg_sub ?_)
  | refine wgs_nil ?_ | refine wgs_cons ?_)
local macro_rules | `(tactic| walk_at "w") => `(tactic| repeat walk_at "e")
abbrev stSteps : Stmt := topS 22
abbrev stTf : Stmt := topS 23
abbrev stTurned : Stmt := topS 24
abbrev stSettled : Stmt := topS 25
theorem scSteps : FnScope ["fars", "near", "other", "house", "delay", "size"] ["fars", "near", "other"] (defScope stSteps) := ⟨rfl, rfl, rfl, by decide +kernel, rfl, by decide +kernel, by decide +kernel⟩
theorem scTf : FnScope ["fars", "near", "house", "other", "reach", "by"] ["fars", "near", "house", "other"] (defScope stTf) := ⟨rfl, rfl, rfl, by decide +kernel, rfl, by decide +kernel, by decide +kernel⟩
theorem scTurned : FnScope ["fars", "nears", "houses", "house", "other"] ["fars", "nears"] (defScope stTurned) := ⟨rfl, rfl, rfl, by decide +kernel, rfl, by decide +kernel, by decide +kernel⟩
theorem scSettled : FnScope ["nears", "houses", "fars", "ahead", "house", "other"] ["nears"] (defScope stSettled) := ⟨rfl, rfl, rfl, by decide +kernel, rfl, by decide +kernel, by decide +kernel⟩
/-! tables -/
abbrev Tab := Nat → Nat → Int
def rowT (n : Nat) (g : Nat → Int) : PyData := .tuple ((List.range n).map fun j => .int (g j))
def tabD (n : Nat) (f : Tab) : PyData := .tuple ((List.range n).map fun i => rowT n (f i))
theorem range_at {α : Type} {n i : Nat} (g : Nat → α) (h : i < n) : ((List.range n).map g)[i]? = some (g i) := by simp [h]
theorem tab_seq (m : Mm) (n : Nat) (f : Tab) : seqOf m (.d (tabD n f)) = some (((List.range n).map fun i => rowT n (f i)).map .d) := rfl
theorem tab_at {n i : Nat} (f : Tab) (h : i < n) : (((List.range n).map fun i => rowT n (f i)).map MV.d)[i]? = some (.d (rowT n (f i))) := by simp [h]
theorem row_at {n j : Nat} (g : Nat → Int) (h : j < n) : (((List.range n).map fun j => PyData.int (g j)).map MV.d)[j]? = some (.d (.int (g j))) := by simp [h]
def trisD (ns : List Tri) : PyData := .tuple (ns.map triD)
def stepD (f : Tab) (o : Nat) (t : Tri) : PyData := .tuple [.int ((t.d : Int) + f t.h o), .int t.h]
def sSteps (xs : List MV) (m : Mm) (Q : QV) : Prop := ∃ (n : Nat) (f : Tab) (ns : List Tri) (o : Nat), xs = [.d (tabD n f), .d (trisD ns), .d (.int o)] ∧ o < n ∧ (∀ t ∈ ns, t.h < n) ∧ ns.length ≤ 14 ∧ Q (.d (.list (ns.map (stepD f o)))) m
def tfv (f : Tab) (ns : List Tri) (h o : Nat) : Int := if h = o then 0 else (ns.map fun t => (t.d : Int) + f t.h o).foldl min 24
def sTf (xs : List MV) (m : Mm) (Q : QV) : Prop := ∃ (n : Nat) (f : Tab) (ns : List Tri) (h o : Nat), xs = [.d (tabD n f), .d (trisD ns), .d (.int h), .d (.int o)] ∧ o < n ∧ (∀ t ∈ ns, t.h < n) ∧ ns.length ≤ 14 ∧ Q (.d (.int (tfv f ns h o))) m
/-- for each house its neighbours -/
structure Nb (n : Nat) (g : Nat → List Tri) : Prop where
  n8 : n ≤ 8
  hh : ∀ i, i < n → ∀ t ∈ g i, t.h < n
  len : ∀ i, i < n → (g i).length ≤ 14
def nbsD (n : Nat) (g : Nat → List Tri) : PyData := .list ((List.range n).map fun i => trisD (g i))
def sTurned (xs : List MV) (m : Mm) (Q : QV) : Prop := ∃ (n : Nat) (f : Tab) (g : Nat → List Tri), xs = [.d (tabD n f), .d (nbsD n g)] ∧ Nb n g ∧ Q (.d (tabD n fun i j => tfv f (g i) i j)) m
section
variable {P : Program} {w : World} {K : PySem.W.Frag} {mg : Str → Option Value} {base : Heap} {f : Addr} {fd : FuncData}
theorem map_get {α β : Type} {l : List α} {g : α → β} {i : Nat} {y : β} (h : (l.map g)[i]? = some y) : ∃ x, l[i]? = some x ∧ y = g x := by
  rw [List.getElem?_map] at h
  cases e : l[i]? with
  | none => rw [e] at h; cases h
  | some x => rw [e] at h; exact ⟨x, rfl, (Option.some.inj h).symm⟩
theorem take_one {α : Type} {l : List α} {i : Nat} {x : α} (h : l[i]? = some x) : l.take (i + 1) = l.take i ++ [x] := by
  rw [List.take_add_one, h]; rfl
theorem ok_steps (F : Fun K "steps_to" "steps_to" stSteps f fd) (B : Bt mg) : FnOk P w K mg base CX0 1 f fd ["fars", "near", "other"] (spM K sSteps) := by
  refine fn_m F scSteps (fun xs m Q h => by obtain ⟨_, _, _, _, rfl, _⟩ := h; rfl) fun X Fm xs m Q ⟨n, f, ns, o, ex, ho, hh, hl, q⟩ hs => ?_
  subst ex
  refine ws_cons (ws_ret (we_lc Fm [("house", 3), ("delay", 4), ("size", 5)] (wi_t Fm ?_)))
  walk_at "w"
  refine ⟨ns.map triD, rfl, by simp; omega, fun i acc m' => m' = m ∧ acc = ((ns.take i).map (stepD f o)).map .d, ⟨rfl, by simp⟩, fun _ _ _ _ _ => trivial, ?_, ?_⟩
  · rintro i x acc m' hx ⟨rfl, rfl⟩
    rw [List.map_map] at hx
    obtain ⟨t, ht, rfl⟩ := map_get hx
    have hm := List.mem_of_getElem? ht
    show Wg _ _ _ _ (.d (.tuple [.int t.h, .int t.d, .int t.s])) _ _ _
    walk_at "w"
    refine L2.iteT ?_
    walk_at "w"
    refine ix_w (Fm.blk _) (tab_seq _ n f) (atI_of (tab_at f (hh t hm)) rfl) ?_
    walk_at "w"
    refine ix_w (Fm.blk _) rfl (atI_of (row_at (f t.h) ho) rfl) ?_
    refine o_add ?_
    walk_at "w"
    refine ⟨[.int ((t.d : Int) + f t.h o), .int t.h], rfl, by simp, rfl, ?_⟩
    rw [take_one ht, List.map_append, List.map_append]
    rfl
  · rintro acc m' ⟨rfl, rfl⟩
    refine .inl ⟨ns.map (stepD f o), ?_, .inl q⟩
    rw [List.length_map, List.length_map, List.take_length]
theorem ok_tf (F : Fun K "turned_far" "turned_far" stTf f fd) (B : Bt mg) (I : Ci mg) (C1 : Cal P w K mg base 1 "steps_to" 3 sSteps) : FnOk P w K mg base CX0 2 f fd ["fars", "near", "house", "other"] (spM K sTf) := by
  refine fn_m F scTf (fun xs m Q h => by obtain ⟨_, _, _, _, _, rfl, _⟩ := h; rfl) fun X Fm xs m Q ⟨n, f, ns, h, o, ex, ho, hh, hl, q⟩ hs => ?_
  subst ex
  have c1 := I.FAR
  refine ws_cons ?_
  walk_at "w"
  refine o_eqI Fm ⟨_, rfl, ?_⟩
  unfold tfv at q
  by_cases e : h = o
  · rw [decide_eq_true (show (h : Int) = (o : Int) by omega)]
    rw [if_pos e] at q
    refine L2.iteT ?_
    walk_at "w"
    exact .inl q
  · rw [decide_eq_false (show ¬ (h : Int) = (o : Int) by omega)]
    rw [if_neg e] at q
    refine L2.iteF ?_
    walk_at "w"
    refine ⟨by simp, .inl ⟨[.int 24], rfl, ?_⟩⟩
    refine we_lc Fm [("reach", 4), ("by", 5)] (wi_l Fm ?_)
    walk_at "w"
    refine ⟨n, f, ns, o, rfl, ho, hh, hl, _, rfl, rfl, by simp; omega, fun i acc m' => m' = m ∧ acc = ((ns.take i).map fun t => PyData.int ((t.d : Int) + f t.h o)).map .d, ⟨rfl, by simp⟩, fun _ _ _ _ hI => by rw [hI.1]; rfl, ?_, ?_⟩
    · rintro i x acc m' hx ⟨rfl, rfl⟩
      rw [List.map_map] at hx
      obtain ⟨t, ht, rfl⟩ := map_get hx
      show Wg _ _ _ _ (.d (.tuple [.int ((t.d : Int) + f t.h o), .int t.h])) _ _ _
      walk_at "w"
      refine L2.iteT ?_
      walk_at "w"
      refine ⟨rfl, ?_⟩
      rw [take_one ht, List.map_append, List.map_append]
      rfl
    · rintro acc m' ⟨rfl, rfl⟩
      rw [List.length_map, List.length_map, List.take_length]
      refine .inl ⟨ns.map fun t => PyData.int ((t.d : Int) + f t.h o), rfl, ?_⟩
      refine o_cat rfl rfl (by simp; omega) (.inl ⟨.int 24 :: ns.map fun t => PyData.int ((t.d : Int) + f t.h o), rfl, ?_⟩)
      have e2 : (ns.map fun t => PyData.int ((t.d : Int) + f t.h o)) = (ns.map fun t => (t.d : Int) + f t.h o).map PyData.int := by rw [List.map_map]; rfl
      refine ⟨.int 24, ns.map fun t => PyData.int ((t.d : Int) + f t.h o), rfl, ?_, ?_, ?_, ?_⟩
      · refine ⟨fun x hx y hy => ?_, fun x hx => ?_⟩
        · have h1 : ∃ i, x = PyData.int i := by rcases List.mem_cons.mp hx with e | hx; exact ⟨_, e⟩; obtain ⟨t, _, e⟩ := List.mem_map.mp hx; exact ⟨_, e.symm⟩
          have h2 : ∃ i, y = PyData.int i := by rcases List.mem_cons.mp hy with e | hy; exact ⟨_, e⟩; obtain ⟨t, _, e⟩ := List.mem_map.mp hy; exact ⟨_, e.symm⟩
          obtain ⟨i, rfl⟩ := h1
          obtain ⟨j, rfl⟩ := h2
          rfl
        · have h1 : ∃ i, x = PyData.int i := by rcases List.mem_cons.mp hx with e | hx; exact ⟨_, e⟩; obtain ⟨t, _, e⟩ := List.mem_map.mp hx; exact ⟨_, e.symm⟩
          obtain ⟨i, rfl⟩ := h1
          intro z; cases z
      · rw [e2]
        show PyData.plainAll (List.map PyData.int (24 :: _)) = true
        generalize (24 :: List.map (fun t : Tri => (t.d : Int) + f t.h o) ns) = l
        induction l with
        | nil => rfl
        | cons a l ih => exact ih
      · rw [e2]
        show PyData.depthAll (List.map PyData.int (24 :: _)) ≤ 100
        generalize (24 :: List.map (fun t : Tri => (t.d : Int) + f t.h o) ns) = l
        induction l with
        | nil => simp [PyData.depthAll]
        | cons a l ih => simp [PyData.depthAll, PyData.depth] at ih ⊢; omega
      · rw [e2, PySem.W.minD_ints]
        exact .inl q
end

end Wn
set_option Elab.async false
set_option linter.all false
set_option maxRecDepth 100000
set_option maxHeartbeats 2000000
set_option autoImplicit false
set_option pp.maxSteps 600
namespace Wn
open PySem L2
local macro_rules | `(tactic| walk_at "fam") => `(tactic| first | assumption | exact Fam.blk (by assumption) _ | exact Fam.blk (Fam.blk (by assumption) _) _)
local macro_rules | `(tactic| walk_at "at") => `(tactic| with_reducible first | exact At.z | exact At.s At.z | exact At.s (At.s At.z) | exact At.s (At.s (At.s At.z)) | exact At.s (At.s (At.s (At.s At.z))) | exact At.s (At.s (At.s (At.s (At.s At.z)))) | exact At.s (At.s (At.s (At.s (At.s (At.s At.z))))) | exact At.s (At.s (At.s (At.s (At.s (At.s (At.s At.z)))))) | exact At.s (At.s (At.s (At.s (At.s (At.s (At.s (At.s At.z))))))) | exact At.s (At.s (At.s (At.s (At.s (At.s (At.s (At.s (At.s At.z)))))))) | exact At.s (At.s (At.s (At.s (At.s (At.s (At.s (At.s (At.s (At.s At.z))))))))) | exact At.s (At.s (At.s (At.s (At.s (At.s (At.s (At.s (At.s (At.s (At.s At.z)))))))))) | exact At.s (At.s (At.s (At.s (At.s (At.s (At.s (At.s (At.s (At.s (At.s (At.s At.z))))))))))) | exact At.s (At.s (At.s (At.s (At.s (At.s (At.s (At.s (At.s (At.s (At.s (At.s (At.s At.z)))))))))))) | exact At.s (At.s (At.s (At.s (At.s (At.s (At.s (At.s (At.s (At.s (At.s (At.s (At.s (At.s At.z))))))))))))) | exact At.s (At.s (At.s (At.s (At.s (At.s (At.s (At.s (At.s (At.s (At.s (At.s (At.s (At.s (At.s At.z)))))))))))))) | exact At.s (At.s (At.s (At.s (At.s (At.s (At.s (At.s (At.s (At.s (At.s (At.s (At.s (At.s (At.s (At.s At.z))))))))))))))) | exact At.s (At.s (At.s (At.s (At.s (At.s (At.s (At.s (At.s (At.s (At.s (At.s (At.s (At.s (At.s (At.s (At.s At.z)))))))))))))))) | exact At.s (At.s (At.s (At.s (At.s (At.s (At.s (At.s (At.s (At.s (At.s (At.s (At.s (At.s (At.s (At.s (At.s (At.s At.z))))))))))))))))) | exact At.s (At.s (At.s (At.s (At.s (At.s (At.s (At.s (At.s (At.s (At.s (At.s (At.s (At.s (At.s (At.s (At.s (At.s (At.s At.z)))))))))))))))))) | exact At.s (At.s (At.s (At.s (At.s (At.s (At.s (At.s (At.s (At.s (At.s (At.s (At.s (At.s (At.s (At.s (At.s (At.s (At.s (At.s At.z))))))))))))))))))) | exact At.s (At.s (At.s (At.s (At.s (At.s (At.s (At.s (At.s (At.s (At.s (At.s (At.s (At.s (At.s (At.s (At.s (At.s (At.s (At.s (At.s At.z)))))))))))))))))))))
local macro_rules | `(tactic| walk_at "call") => `(tactic| first
  | ((with_reducible show We _ _ (.Call (.Name "len" _) _ _ _) _ _ _); refine b_len (by walk_at "fam") (by assumption) ?_)
  | ((with_reducible show We _ _ (.Call (.Name "isinstance" _) [_, .Name "int" _] _ _) _ _ _); refine b_isiInt (by walk_at "fam") (by assumption) ?_)
  | ((with_reducible show We _ _ (.Call (.Name "isinstance" _) [_, .Name "bool" _] _ _) _ _ _); refine b_isiBool (by walk_at "fam") (by assumption) ?_)
  | ((with_reducible show We _ _ (.Call (.Name "isinstance" _) [_, .Name "tuple" _] _ _) _ _ _); refine b_isiTup (by walk_at "fam") (by assumption) ?_)
  | ((with_reducible show We _ _ (.Call (.Name "abs" _) _ _ _) _ _ _); refine b_abs (by walk_at "fam") (by assumption) ?_)
  | ((with_reducible show We _ _ (.Call (.Name "int" _) _ _ _) _ _ _); refine b_intB (by walk_at "fam") (by assumption) ?_)
  | ((with_reducible show We _ _ (.Call (.Name "tuple" _) _ _ _) _ _ _); refine b_tup (by walk_at "fam") (by assumption) ?_)
  | ((with_reducible show We _ _ (.Call (.Name "list" _) [.Call (.Name "range" _) _ _ _] _ _) _ _ _); refine we_listRg (by walk_at "fam") (Bt.list (by assumption)) (Bt.range (by assumption)) ?_)
  | ((with_reducible show We _ _ (.Call (.Name "list" _) _ _ _) _ _ _); refine b_lst (by walk_at "fam") (by assumption) ?_)
  | ((with_reducible show We _ _ (.Call (.Name "min" _) [_, _] _ _) _ _ _); refine b_min2 (by walk_at "fam") (by assumption) ?_)
  | ((with_reducible show We _ _ (.Call (.Name "min" _) [_] [_] _) _ _ _); refine we_minDD (by walk_at "fam") (Bt.min (by assumption)) ?_)
  | ((with_reducible show We _ _ (.Call (.Name "min" _) [_] [] _) _ _ _); refine b_min1 (by walk_at "fam") (by assumption) ?_)
  | ((with_reducible show We _ _ (.Call (.Name "sorted" _) _ _ _) _ _ _); refine b_sorted (by walk_at "fam") (by assumption) ?_)
  | ((with_reducible show We _ _ (.Call (.Attribute _ "append" _) _ _ _) _ _ _); refine we_append (by walk_at "fam") ?_)
  | ((with_reducible show We _ _ (.Call (.Name _ _) _ _ _) _ _ _); refine we_call (by walk_at "fam") (by assumption) (by decide) ?_)
  | ((with_reducible show We _ _ (.Call (.Name _ _) _ _ _) _ _ _); refine we_make (by walk_at "fam") (by assumption) (by decide) ?_)
  | ((with_reducible show We _ _ (.Call (.Attribute _ _ _) (_ :: _) _ _) _ _ _); refine we_meth (by walk_at "fam") (by assumption) (by decide) ?_)
  | ((with_reducible show We _ _ (.Call (.Attribute _ _ _) [] _ _) _ _ _); refine we_meth0 (by walk_at "fam") (by assumption) (by decide) ?_))
local macro_rules | `(tactic| walk_at "e") => `(tactic| first
  | ((with_reducible show We _ _ (.Name _ _) _ _ _); first | refine we_varA (by walk_at "fam") (by walk_at "at") (by rfl) ?_ | refine we_gint (by walk_at "fam") (by assumption) ?_)
  | ((with_reducible show We _ _ (.Constant _ _ _) _ _ _); first | refine we_int ?_ | refine we_bl ?_ | refine we_non ?_ | refine we_str ?_)
  | ((with_reducible show We _ _ (.BinOp _ _ _ _) _ _ _); refine we_bin ?_)
  | ((with_reducible show We _ _ (.Compare _ [_] _ _) _ _ _); refine we_cmp ?_)
  | ((with_reducible show We _ _ (.Compare _ [_, _] _ _) _ _ _); refine we_chain ?_)
  | ((with_reducible show We _ _ (.BoolOp _ [_] _) _ _ _); refine we_one ?_)
  | ((with_reducible show We _ _ (.BoolOp .And _ _) _ _ _); refine we_and ?_)
  | ((with_reducible show We _ _ (.BoolOp .Or _ _) _ _ _); refine we_or ?_)
  | ((with_reducible show We _ _ (.UnaryOp .Not _ _) _ _ _); refine we_not ?_)
  | ((with_reducible show We _ _ (.IfExp _ _ _ _) _ _ _); refine we_ifExp ?_)
  | ((with_reducible show We _ _ (.Tuple _ _ _) _ _ _); refine we_tup ?_)
  | ((with_reducible show We _ _ (.List _ _) _ _ _); refine we_lst ?_)
  | ((with_reducible show We _ _ (.Subscript _ (.Slice _ _ _ _) _) _ _ _); refine we_slice (by walk_at "fam") ?_)
  | ((with_reducible show We _ _ (.Subscript _ _ _) _ _ _); refine we_ix ?_)
  | ((with_reducible show We _ _ (.Attribute _ _ _) _ _ _); refine we_fld (by walk_at "fam") ?_)
  | walk_at "call"
  | ((with_reducible show Wo _ _ none _ _ _); refine wo_none ?_)
  | ((with_reducible show Wo _ _ (some _) _ _ _); refine wo_some ?_)
  | ((with_reducible show Wr _ _ [] _ _ _); refine wr_nil ?_)
  | ((with_reducible show Wr _ _ (_ :: _) _ _ _); refine wr_cons ?_)
  | ((with_reducible show Wt _ _ (.UnaryOp .Not _ _) _ _ _); refine wt_not ?_)
  | ((with_reducible show Wt _ _ (.BoolOp .And _ _) _ _ _); refine wt_w (ww_and ?_))
  | ((with_reducible show Wt _ _ (.BoolOp .Or _ _) _ _ _); refine wt_w (ww_or ?_))
  | ((with_reducible show Wt _ _ (.Compare _ [_] _ _) _ _ _); refine wt_cmp ?_)
  | ((with_reducible show Wt _ _ _ _ _ _); refine wt_val ?_)
  | ((with_reducible show Ww _ _ (.BoolOp .And [_] _) _ _ _); refine ww_and1 ?_)
  | ((with_reducible show Ww _ _ (.BoolOp .Or [_] _) _ _ _); refine ww_or1 ?_)
  | ((with_reducible show Ww _ _ (.BoolOp .And _ _) _ _ _); refine ww_and ?_)
  | ((with_reducible show Ww _ _ (.BoolOp .Or _ _) _ _ _); refine ww_or ?_)
  | ((with_reducible show Ws _ _ [] _ _ _); refine ws_nil ?_)
  | ((with_reducible show Ws _ _ (_ :: _) _ _ _); refine ws_cons ?_)
  | ((with_reducible show Ws1 _ _ (.Return (some _) _) _ _ _); refine ws_ret ?_)
  | ((with_reducible show Ws1 _ _ (.If _ _ _ _) _ _ _); refine ws_if ?_)
  | ((with_reducible show Ws1 _ _ (.Expr _ _) _ _ _); refine ws_expr ?_)
  | ((with_reducible show Ws1 _ _ (.Assign [.Name _ _] (.ListComp _ _ _ _) _) _ _ _); fail)
  | ((with_reducible show Ws1 _ _ (.Assign [.Name _ _] _ _) _ _ _); refine ws_setA (by walk_at "fam") (by walk_at "at") ?_)
  | ((with_reducible show Ws1 _ _ (.Assign [.Attribute _ _ _] _ _) _ _ _); refine ws_fld (by walk_at "fam") ?_)
  | ((with_reducible show Ws1 _ _ (.Assign [_] _ _) _ _ _); refine ws_asg ?_)
  | ((with_reducible show Wts _ _ [] _ _ _); refine wts_nil ?_)
  | ((with_reducible show Wts _ _ [_] _ _ _); refine wts_one ?_)
  | ((with_reducible show Wg _ _ _ (.Name _ _) _ _ _ _); refine wg_nameA (by walk_at "fam") (by walk_at "at") ?_)
  | ((with_reducible show Wg _ _ _ (.Tuple _ _ _) _ _ _ _); refine wg_tup (by walk_at "fam") ?_)
  | ((with_reducible show Wg _ _ _ (.Subscript _ _ _) _ _ _ _); refine wg_sub ?_)
  | refine wgs_nil ?_ | refine wgs_cons ?_)
local macro_rules | `(tactic| walk_at "w") => `(tactic| repeat walk_at "e")
section
variable {P : Program} {w : World} {K : PySem.W.Frag} {mg : Str → Option Value} {base : Heap} {f : Addr} {fd : FuncData}
theorem rangeM_data (n : Nat) : rangeM 0 n = ((List.range n).map fun i => PyData.int (i : Nat)).map .d := by
  unfold rangeM
  rw [List.map_map]
  apply List.map_congr_left
  intro i _
  show MV.d (.int (0 + (i : Nat))) = MV.d (.int (i : Nat))
  rw [Int.zero_add]
theorem take_range {α : Type} {n i : Nat} (g : Nat → α) (h : i < n) : ((List.range n).map g).take (i + 1) = ((List.range n).map g).take i ++ [g i] := take_one (range_at g h)
theorem nbs_at {n i : Nat} (g : Nat → List Tri) (h : i < n) : (((List.range n).map fun i => trisD (g i)).map MV.d)[i]? = some (.d (trisD (g i))) := by simp [h]
theorem ok_turned (F : Fun K "turned" "turned" stTurned f fd) (B : Bt mg) (C1 : Cal P w K mg base 2 "turned_far" 4 sTf) : FnOk P w K mg base CX0 3 f fd ["fars", "nears"] (spM K sTurned) := by
  refine fn_m F scTurned (fun xs m Q h => by obtain ⟨_, _, _, rfl, _⟩ := h; rfl) fun X Fm xs m Q ⟨n, f, g, ex, nb, q⟩ hs => ?_
  subst ex
  have n8 := nb.n8
  refine ws_cons ?_
  walk_at "w"
  refine ⟨_, rfl, _, rfl, by omega, by simp; omega, ?_⟩
  have en : (Int.toNat ((((List.range n).map fun i => trisD (g i)).map MV.d).length : Nat)) = n := by simp
  rw [en, rangeM_data]
  refine .inl ⟨_, rfl, ?_⟩
  walk_at "w"
  refine we_lc Fm [("house", 3)] (wi_l Fm ?_)
  walk_at "w"
  refine ⟨_, rfl, rfl, by simp; omega, fun i acc m' => m' = m ∧ acc = (((List.range n).map fun i => rowT n fun j => tfv f (g i) i j).take i).map .d, ⟨rfl, by simp⟩, fun _ _ _ _ hI => by rw [hI.1]; rfl, ?_, ?_⟩
  · rintro i x acc m' hx ⟨rfl, rfl⟩
    rw [List.map_map] at hx
    obtain ⟨i', hi, rfl⟩ := map_get hx
    have hin : i < n := by have := (List.getElem?_eq_some_iff.mp hi).1; simpa using this
    have e : i' = i := by have := (List.getElem?_eq_some_iff.mp hi).2; simpa using this.symm
    subst e
    show Wg _ _ _ _ (.d (.int (i' : Nat))) _ _ _
    walk_at "w"
    refine L2.iteT ?_
    walk_at "w"
    refine we_lc (Fm.blk _) [("other", 4)] (wi_l (Fm.blk _) ?_)
    walk_at "w"
    refine ⟨_, rfl, rfl, by simp; omega, fun j acc m2 => m2 = m' ∧ acc = (((List.range n).map fun j => PyData.int (tfv f (g i') i' j)).take j).map .d, ⟨rfl, by simp⟩, fun _ _ _ _ hI => by rw [hI.1]; rfl, ?_, ?_⟩
    · rintro j x acc m' hx ⟨rfl, rfl⟩
      rw [List.map_map] at hx
      obtain ⟨j', hj, rfl⟩ := map_get hx
      have hjn : j < n := by have := (List.getElem?_eq_some_iff.mp hj).1; simpa using this
      have e : j' = j := by have := (List.getElem?_eq_some_iff.mp hj).2; simpa using this.symm
      subst e
      show Wg _ _ _ _ (.d (.int (j' : Nat))) _ _ _
      walk_at "w"
      refine L2.iteT ?_
      walk_at "w"
      refine ix_w (Fam.blk (Fm.blk _) _) rfl (atI_of (nbs_at g hin) rfl) ?_
      walk_at "w"
      refine ⟨n, f, g i', i', j', rfl, hjn, nb.hh i' hin, nb.len i' hin, rfl, ?_⟩
      rw [take_range _ hjn, List.map_append]
      rfl
    · rintro acc m' ⟨rfl, rfl⟩
      refine .inl ⟨(List.range n).map fun j => PyData.int (tfv f (g i') i' j), ?_, _, rfl, rfl, ?_⟩
      · rw [List.take_of_length_le (by simp)]
      · rw [take_range _ hin, List.map_append]
        rfl
  · rintro acc m' ⟨rfl, rfl⟩
    refine .inl ⟨(List.range n).map fun i => rowT n fun j => tfv f (g i) i j, ?_, _, rfl, .inl q⟩
    rw [List.take_of_length_le (by simp)]
/-! settled -/
theorem eqv_ints : ∀ l l' : List Int, PyData.eqvAll (l.map .int) (l'.map .int) = decide (l = l')
  | [], [] => rfl
  | [], _ :: _ => rfl
  | _ :: _, [] => rfl
  | a :: l, b :: l' => by
    show (PyData.eqv (.int a) (.int b) && PyData.eqvAll (l.map .int) (l'.map .int)) = _
    rw [eqv_int, eqv_ints l l']
    by_cases h : a = b <;> by_cases h2 : l = l' <;> simp [h, h2]
theorem eqv_rows {α : Type} {e : α → List Int} : ∀ l l' : List α, PyData.eqvAll (l.map fun x => .tuple ((e x).map .int)) (l'.map fun x => .tuple ((e x).map .int)) = decide (l.map e = l'.map e)
  | [], [] => rfl
  | [], _ :: _ => rfl
  | _ :: _, [] => rfl
  | a :: l, b :: l' => by
    show (PyData.eqvAll ((e a).map .int) ((e b).map .int) && _) = _
    rw [eqv_ints, eqv_rows l l']
    by_cases h : e a = e b <;> by_cases h2 : l.map e = l'.map e <;> simp [h, h2]
def Same2 (n : Nat) (f g : Tab) : Prop := ∀ i, i < n → ∀ j, j < n → f i j = g i j
theorem rowT_ints (n : Nat) (g : Nat → Int) : rowT n g = .tuple (((List.range n).map g).map .int) := by
  unfold rowT; rw [List.map_map]; rfl
theorem tabD_ints (n : Nat) (f : Tab) : tabD n f = .tuple (((List.range n).map fun i => (List.range n).map (f i)).map fun l => .tuple (l.map .int)) := by
  unfold tabD
  rw [List.map_map]
  congr 1
  apply List.map_congr_left
  intro i _
  exact rowT_ints n (f i)
theorem range_map_eq {α : Type} {n : Nat} {g h : Nat → α} : (List.range n).map g = (List.range n).map h ↔ ∀ i, i < n → g i = h i := by
  constructor
  · intro e i hi
    have := congrArg (fun l => l[i]?) e
    simpa [hi] using this
  · intro e
    apply List.map_congr_left
    intro i hi
    exact e i (by simpa using hi)
theorem tab_eqv (n : Nat) (f g : Tab) : PyData.eqv (tabD n f) (tabD n g) = true ↔ Same2 n f g := by
  rw [tabD_ints, tabD_ints]
  show PyData.eqvAll _ _ = true ↔ _
  have := eqv_rows (e := fun l : List Int => l) ((List.range n).map fun i => (List.range n).map (f i)) ((List.range n).map fun i => (List.range n).map (g i))
  rw [this]
  simp only [List.map_id', decide_eq_true_eq]
  rw [range_map_eq]
  constructor
  · intro h i hi j hj
    exact range_map_eq.mp (h i hi) j hj
  · intro h i hi
    exact range_map_eq.mpr fun j hj => h i hi j hj
theorem tabD_congr {n : Nat} {f g : Tab} (h : Same2 n f g) : tabD n f = tabD n g := by
  rw [tabD_ints, tabD_ints]
  congr 2
  exact range_map_eq.mpr fun i hi => range_map_eq.mpr fun j hj => h i hi j hj
theorem ints_plain : ∀ l : List Int, PyData.plainAll (l.map .int) = true
  | [] => rfl
  | _ :: l => ints_plain l
theorem rows_plain : ∀ l : List (List Int), PyData.plainAll (l.map fun r => PyData.tuple (r.map .int)) = true
  | [] => rfl
  | a :: l => by
    show (PyData.plainAll (a.map .int) && _) = true
    rw [ints_plain, rows_plain l]; rfl
theorem tab_plain (n : Nat) (f : Tab) : (tabD n f).plain = true := by rw [tabD_ints]; exact rows_plain _
theorem ints_depth : ∀ l : List Int, PyData.depthAll (l.map .int) ≤ 1
  | [] => by simp [PyData.depthAll]
  | _ :: l => by have := ints_depth l; simp [PyData.depthAll, PyData.depth] at this ⊢; omega
theorem rows_depth : ∀ l : List (List Int), PyData.depthAll (l.map fun r => PyData.tuple (r.map .int)) ≤ 3
  | [] => by simp [PyData.depthAll]
  | a :: l => by have := rows_depth l; have := ints_depth a; simp [PyData.depthAll, PyData.depth] at *; omega
theorem tab_depth (n : Nat) (f : Tab) : (tabD n f).depth ≤ 10 := by
  rw [tabD_ints]
  have := rows_depth ((List.range n).map fun i => (List.range n).map (f i))
  simp [PyData.depth] at this ⊢; omega
def Bd (n : Nat) (f : Tab) : Prop := ∀ i, i < n → ∀ j, j < n → 0 ≤ f i j ∧ f i j ≤ 24
def Tn (g : Nat → List Tri) (f : Tab) : Tab := fun i j => tfv f (g i) i j
def sumT (n : Nat) (f : Tab) : Nat := ((List.range n).map fun i => ((List.range n).map fun j => (f i j).toNat).sum).sum
theorem foldl_min_le (l : List Int) : ∀ a, l.foldl min a ≤ a := by
  induction l with
  | nil => intro a; exact Int.le_refl a
  | cons b l ih => intro a; exact Int.le_trans (ih _) (Int.min_le_left _ _)
theorem foldl_min_mem (l : List Int) : ∀ a, ∀ x ∈ l, l.foldl min a ≤ x := by
  induction l with
  | nil => intro a x hx; simp at hx
  | cons b l ih =>
    intro a x hx
    rcases List.mem_cons.mp hx with rfl | hx
    · exact Int.le_trans (foldl_min_le l _) (Int.min_le_right _ _)
    · exact ih _ x hx
theorem foldl_min_in (l : List Int) : ∀ a, l.foldl min a = a ∨ l.foldl min a ∈ l := by
  induction l with
  | nil => intro a; exact .inl rfl
  | cons b l ih =>
    intro a
    rcases ih (min a b) with h | h
    · rw [List.foldl_cons, h]
      by_cases hab : a ≤ b
      · exact .inl (Int.min_eq_left hab)
      · exact .inr (by rw [Int.min_eq_right (by omega)]; exact List.mem_cons_self)
    · exact .inr (List.mem_cons_of_mem _ h)
theorem Tn_bd {n : Nat} {g : Nat → List Tri} {f : Tab} (nb : Nb n g) (h : Bd n f) : Bd n (Tn g f) := by
  intro i hi j hj
  unfold Tn tfv
  split
  · omega
  · refine ⟨?_, foldl_min_le _ _⟩
    rcases foldl_min_in ((g i).map fun t => (t.d : Int) + f t.h j) 24 with e | e
    · rw [e]; decide
    · obtain ⟨t, ht, e⟩ := List.mem_map.mp e
      rw [← e]
      have := (h t.h (nb.hh i hi t ht) j hj).1
      omega
theorem Tn_mono {n : Nat} {g : Nat → List Tri} {f f' : Tab} (nb : Nb n g) (h : ∀ i, i < n → ∀ j, j < n → f i j ≤ f' i j) : ∀ i, i < n → ∀ j, j < n → Tn g f i j ≤ Tn g f' i j := by
  intro i hi j hj
  unfold Tn tfv
  split
  · exact Int.le_refl 0
  · rcases foldl_min_in ((g i).map fun t => (t.d : Int) + f' t.h j) 24 with e | e
    · rw [e]; exact foldl_min_le _ _
    · obtain ⟨t, ht, e⟩ := List.mem_map.mp e
      rw [← e]
      refine Int.le_trans (foldl_min_mem _ 24 ((t.d : Int) + f t.h j) (List.mem_map.mpr ⟨t, ht, rfl⟩)) ?_
      have := h t.h (nb.hh i hi t ht) j hj
      omega
theorem sum_le {α : Type} {l : List α} {u v : α → Nat} (h : ∀ x ∈ l, u x ≤ v x) : (l.map u).sum ≤ (l.map v).sum := by
  induction l with
  | nil => exact Nat.le_refl _
  | cons a l ih =>
    have h1 := h a List.mem_cons_self
    have h2 := ih fun x hx => h x (List.mem_cons_of_mem _ hx)
    simp; omega
theorem sum_lt {α : Type} {l : List α} {u v : α → Nat} (h : ∀ x ∈ l, u x ≤ v x) {a : α} (ha : a ∈ l) (hl : u a < v a) : (l.map u).sum < (l.map v).sum := by
  induction l with
  | nil => simp at ha
  | cons b l ih =>
    have h1 := h b List.mem_cons_self
    have h2 := sum_le (l := l) fun x hx => h x (List.mem_cons_of_mem _ hx)
    rcases List.mem_cons.mp ha with rfl | ha
    · simp; omega
    · have := ih (fun x hx => h x (List.mem_cons_of_mem _ hx)) ha
      simp; omega
theorem sumT_lt {n : Nat} {f f' : Tab} (b : Bd n f) (b' : Bd n f') (h : ∀ i, i < n → ∀ j, j < n → f i j ≤ f' i j) (ne : ¬ Same2 n f f') : sumT n f < sumT n f' := by
  have : ∃ i, i < n ∧ ∃ j, j < n ∧ f i j ≠ f' i j := by
    apply Classical.byContradiction
    intro q
    apply ne
    intro i hi j hj
    apply Classical.byContradiction
    intro z
    exact q ⟨i, hi, j, hj, z⟩
  obtain ⟨i, hi, j, hj, z⟩ := this
  have le : ∀ i, i < n → ((List.range n).map fun j => (f i j).toNat).sum ≤ ((List.range n).map fun j => (f' i j).toNat).sum := fun i hi => sum_le fun j hj => by
    have := h i hi j (by simpa using hj); omega
  unfold sumT
  refine sum_lt (fun i hi => le i (by simpa using hi)) (a := i) (by simpa using hi) (sum_lt (fun j hj => ?_) (a := j) (by simpa using hj) ?_)
  · have := h i hi j (by simpa using hj); omega
  · have := h i hi j hj; have := b i hi j hj; have := b' i hi j hj; omega
/-- a settled table -/
structure Fix (n : Nat) (g : Nat → List Tri) (f : Tab) : Prop where
  bd : Bd n f
  fx : Same2 n (Tn g f) f
def sSettled (xs : List MV) (m : Mm) (Q : QV) : Prop := ∃ (n : Nat) (g : Nat → List Tri), xs = [.d (nbsD n g)] ∧ Nb n g ∧ ∀ f, Fix n g f → Q (.d (tabD n f)) m
theorem ok_settled (F : Fun K "settled" "settled" stSettled f fd) (B : Bt mg) (I : Ci mg) (C1 : Cal P w K mg base 3 "turned" 2 sTurned) : FnOk P w K mg base CX0 4 f fd ["nears"] (spM K sSettled) := by
  refine fn_m F scSettled (fun xs m Q h => by obtain ⟨_, _, rfl, _⟩ := h; rfl) fun X Fm xs m Q ⟨n, g, ex, nb, q⟩ hs => ?_
  subst ex
  have n8 := nb.n8
  have c1 := I.FAR
  refine ws_cons ?_
  walk_at "w"
  refine ⟨_, rfl, _, rfl, by omega, by simp; omega, ?_⟩
  have en : (Int.toNat ((((List.range n).map fun i => trisD (g i)).map MV.d).length : Nat)) = n := by simp
  rw [en, rangeM_data]
  refine .inl ⟨_, rfl, ?_⟩
  walk_at "w"
  refine we_lc Fm [("house", 4)] (wi_l Fm ?_)
  walk_at "w"
  refine ⟨_, rfl, rfl, by simp; omega, fun i acc m' => m = m' ∧ acc = (((List.range n).map fun i => rowT n fun j => if i = j then 0 else 24).take i).map .d, ⟨rfl, by simp⟩, fun _ _ _ _ hI => by rw [← hI.1]; rfl, ?_, ?_⟩
  · rintro i x acc m' hx ⟨rfl, rfl⟩
    rw [List.map_map] at hx
    obtain ⟨i', hi, rfl⟩ := map_get hx
    have hin : i < n := by have := (List.getElem?_eq_some_iff.mp hi).1; simpa using this
    have e : i' = i := by have := (List.getElem?_eq_some_iff.mp hi).2; simpa using this.symm
    subst e
    show Wg _ _ _ _ (.d (.int (i' : Nat))) _ _ _
    walk_at "w"
    refine L2.iteT ?_
    walk_at "w"
    refine we_lc (Fm.blk _) [("other", 5)] (wi_l (Fm.blk _) ?_)
    walk_at "w"
    refine ⟨_, rfl, rfl, by simp; omega, fun j acc m' => m = m' ∧ acc = (((List.range n).map fun j => PyData.int (if i' = j then 0 else 24)).take j).map .d, ⟨rfl, by simp⟩, fun _ _ _ _ hI => by rw [← hI.1]; rfl, ?_, ?_⟩
    · rintro j x acc m' hx ⟨rfl, rfl⟩
      rw [List.map_map] at hx
      obtain ⟨j', hj, rfl⟩ := map_get hx
      have hjn : j < n := by have := (List.getElem?_eq_some_iff.mp hj).1; simpa using this
      have e : j' = j := by have := (List.getElem?_eq_some_iff.mp hj).2; simpa using this.symm
      subst e
      show Wg _ _ _ _ (.d (.int (j' : Nat))) _ _ _
      walk_at "w"
      refine L2.iteT ?_
      walk_at "w"
      refine o_eqI (Fam.blk (Fm.blk _) _) ⟨_, rfl, ?_⟩
      by_cases hij : i' = j'
      · rw [decide_eq_true (show (i' : Int) = (j' : Int) by omega)]
        refine L2.iteT ?_
        walk_at "w"
        refine ⟨rfl, ?_⟩
        rw [take_range _ hjn, List.map_append, if_pos hij]; rfl
      · rw [decide_eq_false (show ¬ (i' : Int) = (j' : Int) by omega)]
        refine L2.iteF ?_
        walk_at "w"
        refine ⟨rfl, ?_⟩
        rw [take_range _ hjn, List.map_append, if_neg hij]; rfl
    · rintro acc m' ⟨rfl, rfl⟩
      refine .inl ⟨(List.range n).map fun j => PyData.int (if i' = j then 0 else 24), ?_, _, rfl, rfl, ?_⟩
      · rw [List.take_of_length_le (by simp)]
      · rw [take_range _ hin, List.map_append]
        rfl
  · rintro acc m' ⟨rfl, rfl⟩
    refine .inl ⟨(List.range n).map fun i => rowT n fun j => if i = j then 0 else 24, by rw [List.take_of_length_le (by simp)], _, rfl, ?_⟩
    walk_at "w"
    refine (ws_while Fm (fun mu ρ' m' => m = m' ∧ ∃ (f : Tab) (a : PyData) (u v : Option MV), ρ' = [some (.d (nbsD n g)), some (.d (.list ((List.range n).map fun i => PyData.int (i : Nat)))), some (.d (tabD n f)), some (.d a), u, v] ∧ Bd n f ∧ (∀ i, i < n → ∀ j, j < n → Tn g f i j ≤ f i j) ∧
        (a = .none ∨ ∃ f0, a = tabD n f0 ∧ Bd n f0 ∧ Same2 n f (Tn g f0)) ∧ mu = sumT n f + (if PyData.eqv (tabD n f) a = true then 0 else 1)) (n0 := sumT n (fun i j => if i = j then 0 else 24) + 1) ?_ ?_)
    · refine ⟨rfl, fun i j => if i = j then 0 else 24, .none, none, none, rfl, ?_, ?_, .inl rfl, ?_⟩
      · intro i _ j _
        dsimp only
        split <;> omega
      · intro i _ j _
        show tfv _ (g i) i j ≤ _
        unfold tfv
        dsimp only
        split
        · exact Int.le_refl _
        · exact foldl_min_le _ _
      · rfl
    · rintro mu ρ' m' ⟨rfl, f, a, u, v, rfl, bd, dec, ha, rfl⟩
      walk_at "w"
      have pa : a.plain = true ∧ min (tabD n f).depth a.depth ≤ 100 := by
        have := tab_depth n f
        refine ⟨?_, by omega⟩
        rcases ha with rfl | ⟨f0, rfl, _⟩
        · rfl
        · exact tab_plain n f0
      refine o_ne Fm rfl rfl (tab_plain n f) pa.1 pa.2 ⟨_, rfl, ?_⟩
      cases he : PyData.eqv (tabD n f) a with
      | true =>
        refine L2.iteF ?_
        walk_at "w"
        rcases ha with rfl | ⟨f0, rfl, b0, s0⟩
        · cases he
        · have s1 := (tab_eqv n f f0).mp he
          refine .inl (q f ⟨bd, fun i hi j hj => ?_⟩)
          have e1 : Tn g f i j = Tn g f0 i j := by
            apply Int.le_antisymm
            · exact Tn_mono nb (fun i hi j hj => by rw [s1 i hi j hj]; exact Int.le_refl _) i hi j hj
            · exact Tn_mono nb (fun i hi j hj => by rw [s1 i hi j hj]; exact Int.le_refl _) i hi j hj
          rw [e1]
          exact (s0 i hi j hj).symm
      | false =>
        refine L2.iteT ?_
        walk_at "w"
        refine ⟨n, f, g, rfl, nb, ?_⟩
        walk_at "w"
        refine ⟨_, ?_, rfl, Tn g f, tabD n f, _, _, rfl, Tn_bd nb bd, Tn_mono nb dec, .inr ⟨f, rfl, bd, fun _ _ _ _ => rfl⟩, rfl⟩
        have z1 : (if false = true then 0 else 1 : Nat) = 1 := rfl
        rw [z1]
        by_cases hq : Same2 n (Tn g f) f
        · rw [if_pos ((tab_eqv n _ _).mpr hq)]
          have : sumT n (Tn g f) = sumT n f := by
            unfold sumT
            congr 1
            exact range_map_eq.mpr fun i hi => by
              congr 1
              exact range_map_eq.mpr fun j hj => by rw [hq i hi j hj]
          omega
        · have := sumT_lt (Tn_bd nb bd) bd dec hq
          split <;> omega
end

end Wn
set_option Elab.async false
set_option linter.all false
set_option maxRecDepth 100000
set_option maxHeartbeats 2000000
set_option autoImplicit false
set_option pp.maxSteps 600
namespace Wn
open PySem L2
local macro_rules | `(tactic| walk_at "fam") => `(tactic| first | assumption | exact Fam.blk (by assumption) _ | exact Fam.blk (Fam.blk (by assumption) _) _)
local macro_rules | `(tactic| walk_at "at") => `(tactic| with_reducible first | exact At.z | exact At.s At.z | exact At.s (At.s At.z) | exact At.s (At.s (At.s At.z)) | exact At.s (At.s (At.s (At.s At.z))) | exact At.s (At.s (At.s (At.s (At.s At.z)))) | exact At.s (At.s (At.s (At.s (At.s (At.s At.z))))) | exact At.s (At.s (At.s (At.s (At.s (At.s (At.s At.z)))))) | exact At.s (At.s (At.s (At.s (At.s (At.s (At.s (At.s At.z))))))) | exact At.s (At.s (At.s (At.s (At.s (At.s (At.s (At.s (At.s At.z)))))))) | exact At.s (At.s (At.s (At.s (At.s (At.s (At.s (At.s (At.s (At.s At.z))))))))) | exact At.s (At.s (At.s (At.s (At.s (At.s (At.s (At.s (At.s (At.s (At.s At.z)))))))))) | exact At.s (At.s (At.s (At.s (At.s (At.s (At.s (At.s (At.s (At.s (At.s (At.s At.z))))))))))) | exact At.s (At.s (At.s (At.s (At.s (At.s (At.s (At.s (At.s (At.s (At.s (At.s (At.s At.z)))))))))))) | exact At.s (At.s (At.s (At.s (At.s (At.s (At.s (At.s (At.s (At.s (At.s (At.s (At.s (At.s At.z))))))))))))) | exact At.s (At.s (At.s (At.s (At.s (At.s (At.s (At.s (At.s (At.s (At.s (At.s (At.s (At.s (At.s At.z)))))))))))))) | exact At.s (At.s (At.s (At.s (At.s (At.s (At.s (At.s (At.s (At.s (At.s (At.s (At.s (At.s (At.s (At.s At.z))))))))))))))) | exact At.s (At.s (At.s (At.s (At.s (At.s (At.s (At.s (At.s (At.s (At.s (At.s (At.s (At.s (At.s (At.s (At.s At.z)))))))))))))))) | exact At.s (At.s (At.s (At.s (At.s (At.s (At.s (At.s (At.s (At.s (At.s (At.s (At.s (At.s (At.s (At.s (At.s (At.s At.z))))))))))))))))) | exact At.s (At.s (At.s (At.s (At.s (At.s (At.s (At.s (At.s (At.s (At.s (At.s (At.s (At.s (At.s (At.s (At.s (At.s (At.s At.z)))))))))))))))))) | exact At.s (At.s (At.s (At.s (At.s (At.s (At.s (At.s (At.s (At.s (At.s (At.s (At.s (At.s (At.s (At.s (At.s (At.s (At.s (At.s At.z))))))))))))))))))) | exact At.s (At.s (At.s (At.s (At.s (At.s (At.s (At.s (At.s (At.s (At.s (At.s (At.s (At.s (At.s (At.s (At.s (At.s (At.s (At.s (At.s At.z)))))))))))))))))))))
local macro_rules | `(tactic| walk_at "call") => `(tactic| first
  | ((with_reducible show We _ _ (.Call (.Name "len" _) _ _ _) _ _ _); refine b_len (by walk_at "fam") (by assumption) ?_)
  | ((with_reducible show We _ _ (.Call (.Name "isinstance" _) [_, .Name "int" _] _ _) _ _ _); refine b_isiInt (by walk_at "fam") (by assumption) ?_)
  | ((with_reducible show We _ _ (.Call (.Name "isinstance" _) [_, .Name "bool" _] _ _) _ _ _); refine b_isiBool (by walk_at "fam") (by assumption) ?_)
  | ((with_reducible show We _ _ (.Call (.Name "isinstance" _) [_, .Name "tuple" _] _ _) _ _ _); refine b_isiTup (by walk_at "fam") (by assumption) ?_)
  | ((with_reducible show We _ _ (.Call (.Name "abs" _) _ _ _) _ _ _); refine b_abs (by walk_at "fam") (by assumption) ?_)
  | ((with_reducible show We _ _ (.Call (.Name "int" _) _ _ _) _ _ _); refine b_intB (by walk_at "fam") (by assumption) ?_)
  | ((with_reducible show We _ _ (.Call (.Name "tuple" _) _ _ _) _ _ _); refine b_tup (by walk_at "fam") (by assumption) ?_)
  | ((with_reducible show We _ _ (.Call (.Name "list" _) [.Call (.Name "range" _) _ _ _] _ _) _ _ _); refine we_listRg (by walk_at "fam") (Bt.list (by assumption)) (Bt.range (by assumption)) ?_)
  | ((with_reducible show We _ _ (.Call (.Name "list" _) _ _ _) _ _ _); refine b_lst (by walk_at "fam") (by assumption) ?_)
  | ((with_reducible show We _ _ (.Call (.Name "min" _) [_, _] _ _) _ _ _); refine b_min2 (by walk_at "fam") (by assumption) ?_)
  | ((with_reducible show We _ _ (.Call (.Name "min" _) [_] [_] _) _ _ _); refine we_minDD (by walk_at "fam") (Bt.min (by assumption)) ?_)
  | ((with_reducible show We _ _ (.Call (.Name "min" _) [_] [] _) _ _ _); refine b_min1 (by walk_at "fam") (by assumption) ?_)
  | ((with_reducible show We _ _ (.Call (.Name "sorted" _) _ _ _) _ _ _); refine b_sorted (by walk_at "fam") (by assumption) ?_)
  | ((with_reducible show We _ _ (.Call (.Attribute _ "append" _) _ _ _) _ _ _); refine we_append (by walk_at "fam") ?_)
  | ((with_reducible show We _ _ (.Call (.Name _ _) _ _ _) _ _ _); refine we_call (by walk_at "fam") (by assumption) (by decide) ?_)
  | ((with_reducible show We _ _ (.Call (.Name _ _) _ _ _) _ _ _); refine we_make (by walk_at "fam") (by assumption) (by decide) ?_)
  | ((with_reducible show We _ _ (.Call (.Attribute _ _ _) (_ :: _) _ _) _ _ _); refine we_meth (by walk_at "fam") (by assumption) (by decide) ?_)
  | ((with_reducible show We _ _ (.Call (.Attribute _ _ _) [] _ _) _ _ _); refine we_meth0 (by walk_at "fam") (by assumption) (by decide) ?_))
local macro_rules | `(tactic| walk_at "e") => `(tactic| first
  | ((with_reducible show We _ _ (.Name _ _) _ _ _); first | refine we_varA (by walk_at "fam") (by walk_at "at") (by rfl) ?_ | refine we_gint (by walk_at "fam") (by assumption) ?_)
  | ((with_reducible show We _ _ (.Constant _ _ _) _ _ _); first | refine we_int ?_ | refine we_bl ?_ | refine we_non ?_ | refine we_str ?_)
  | ((with_reducible show We _ _ (.BinOp _ _ _ _) _ _ _); refine we_bin ?_)
  | ((with_reducible show We _ _ (.Compare _ [_] _ _) _ _ _); refine we_cmp ?_)
  | ((with_reducible show We _ _ (.Compare _ [_, _] _ _) _ _ _); refine we_chain ?_)
  | ((with_reducible show We _ _ (.BoolOp _ [_] _) _ _ _); refine we_one ?_)
  | ((with_reducible show We _ _ (.BoolOp .And _ _) _ _ _); refine we_and ?_)
  | ((with_reducible show We _ _ (.BoolOp .Or _ _) _ _ _); refine we_or ?_)
  | ((with_reducible show We _ _ (.UnaryOp .Not _ _) _ _ _); refine we_not ?_)
  | ((with_reducible show We _ _ (.IfExp _ _ _ _) _ _ _); refine we_ifExp ?_)
  | ((with_reducible show We _ _ (.Tuple _ _ _) _ _ _); refine we_tup ?_)
  | ((with_reducible show We _ _ (.List _ _) _ _ _); refine we_lst ?_)
  | ((with_reducible show We _ _ (.Subscript _ (.Slice _ _ _ _) _) _ _ _); refine we_slice (by walk_at "fam") ?_)
  | ((with_reducible show We _ _ (.Subscript _ _ _) _ _ _); refine we_ix ?_)
  | ((with_reducible show We _ _ (.Attribute _ _ _) _ _ _); refine we_fld (by walk_at "fam") ?_)
  | walk_at "call"
  | ((with_reducible show Wo _ _ none _ _ _); refine wo_none ?_)
  | ((with_reducible show Wo _ _ (some _) _ _ _); refine wo_some ?_)
  | ((with_reducible show Wr _ _ [] _ _ _); refine wr_nil ?_)
  | ((with_reducible show Wr _ _ (_ :: _) _ _ _); refine wr_cons ?_)
  | ((with_reducible show Wt _ _ (.UnaryOp .Not _ _) _ _ _); refine wt_not ?_)
  | ((with_reducible show Wt _ _ (.BoolOp .And _ _) _ _ _); refine wt_w (ww_and ?_))
  | ((with_reducible show Wt _ _ (.BoolOp .Or _ _) _ _ _); refine wt_w (ww_or ?_))
  | ((with_reducible show Wt _ _ (.Compare _ [_] _ _) _ _ _); refine wt_cmp ?_)
  | ((with_reducible show Wt _ _ _ _ _ _); refine wt_val ?_)
  | ((with_reducible show Ww _ _ (.BoolOp .And [_] _) _ _ _); refine ww_and1 ?_)
  | ((with_reducible show Ww _ _ (.BoolOp .Or [_] _) _ _ _); refine ww_or1 ?_)
  | ((with_reducible show Ww _ _ (.BoolOp .And _ _) _ _ _); refine ww_and ?_)
  | ((with_reducible show Ww _ _ (.BoolOp .Or _ _) _ _ _); refine ww_or ?_)
  | ((with_reducible show Ws _ _ [] _ _ _); refine ws_nil ?_)
  | ((with_reducible show Ws _ _ (_ :: _) _ _ _); refine ws_cons ?_)
  | ((with_reducible show Ws1 _ _ (.Return (some _) _) _ _ _); refine ws_ret ?_)
  | ((with_reducible show Ws1 _ _ (.If _ _ _ _) _ _ _); refine ws_if ?_)
  | ((with_reducible show Ws1 _ _ (.Expr _ _) _ _ _); refine ws_expr ?_)
  | ((with_reducible show Ws1 _ _ (.Assign [.Name _ _] (.ListComp _ _ _ _) _) _ _ _); fail)
  | ((with_reducible show Ws1 _ _ (.Assign [.Name _ _] _ _) _ _ _); refine ws_setA (by walk_at "fam") (by walk_at "at") ?_)
  | ((with_reducible show Ws1 _ _ (.Assign [.Attribute _ _ _] _ _) _ _ _); refine ws_fld (by walk_at "fam") ?_)
  | ((with_reducible show Ws1 _ _ (.Assign [_] _ _) _ _ _); refine ws_asg ?_)
  | ((with_reducible show Wts _ _ [] _ _ _); refine wts_nil ?_)
  | ((with_reducible show Wts _ _ [_] _ _ _); refine wts_one ?_)
  | ((with_reducible show Wg _ _ _ (.Name _ _) _ _ _ _); refine wg_nameA (by walk_at "fam") (by walk_at "at") ?_)
  | ((with_reducible show Wg _ _ _ (.Tuple _ _ _) _ _ _ _); refine wg_tup (by walk_at "fam") ?_)
  | ((with_reducible show Wg _ _ _ (.Subscript _ _ _) _ _ _ _); refine wg_sub ?_)
  | refine wgs_nil ?_ | refine wgs_cons ?_)
local macro_rules | `(tactic| walk_at "w") => `(tactic| repeat walk_at "e")
abbrev stR (j : Nat) : Stmt := inClass (topS 20) j
abbrev stF (j : Nat) : Stmt := inClass (topS 26) j
theorem scRi : FnScope ["self", "houses", "roads", "wrong"] ["self", "houses", "roads"] (defScope (stR 0)) := ⟨rfl, rfl, rfl, by decide +kernel, rfl, by decide +kernel, by decide +kernel⟩
theorem scRfall : FnScope ["self", "a", "b"] ["self", "a", "b"] (defScope (stR 2)) := ⟨rfl, rfl, rfl, by decide +kernel, rfl, by decide +kernel, by decide +kernel⟩
theorem scRrise : FnScope ["self", "a", "b"] ["self", "a", "b"] (defScope (stR 3)) := ⟨rfl, rfl, rfl, by decide +kernel, rfl, by decide +kernel, by decide +kernel⟩
theorem scRneigh : FnScope ["self", "house"] ["self", "house"] (defScope (stR 4)) := ⟨rfl, rfl, rfl, by decide +kernel, rfl, by decide +kernel, by decide +kernel⟩
theorem scRchange : FnScope ["self", "a", "b", "state", "at"] ["self", "a", "b", "state"] (defScope (stR 6)) := ⟨rfl, rfl, rfl, by decide +kernel, rfl, by decide +kernel, by decide +kernel⟩
theorem scRplace : FnScope ["self", "a", "b", "at", "row"] ["self", "a", "b"] (defScope (stR 7)) := ⟨rfl, rfl, rfl, by decide +kernel, rfl, by decide +kernel, by decide +kernel⟩
theorem scFi : FnScope ["self", "roads"] ["self", "roads"] (defScope (stF 0)) := ⟨rfl, rfl, rfl, by decide +kernel, rfl, by decide +kernel, by decide +kernel⟩
theorem scFfar : FnScope ["self", "house", "other"] ["self", "house", "other"] (defScope (stF 1)) := ⟨rfl, rfl, rfl, by decide +kernel, rfl, by decide +kernel, by decide +kernel⟩
theorem scFnext : FnScope ["self", "house", "other", "steps", "reach", "by"] ["self", "house", "other"] (defScope (stF 2)) := ⟨rfl, rfl, rfl, by decide +kernel, rfl, by decide +kernel, by decide +kernel⟩
theorem scFturn : FnScope ["self"] ["self"] (defScope (stF 3)) := ⟨rfl, rfl, rfl, by decide +kernel, rfl, by decide +kernel, by decide +kernel⟩
theorem scFrows : FnScope ["self"] ["self"] (defScope (stF 4)) := ⟨rfl, rfl, rfl, by decide +kernel, rfl, by decide +kernel, by decide +kernel⟩
theorem scFnears : FnScope ["self", "house"] ["self"] (defScope (stF 6)) := ⟨rfl, rfl, rfl, by decide +kernel, rfl, by decide +kernel, by decide +kernel⟩
theorem scFhas : FnScope ["self", "house"] ["self", "house"] (defScope (stF 7)) := ⟨rfl, rfl, rfl, by decide +kernel, rfl, by decide +kernel, by decide +kernel⟩
/-- what the classes are -/
structure Kc (K : PySem.W.Frag) (CR CF : Addr) : Prop where
  clR : Cls K CR
  many : NoAttr K CR "many"
  listed : NoAttr K CR "listed"
  states : NoAttr K CR "states"
  clF : Cls K CF
  roads : NoAttr K CF "roads"
  fars : NoAttr K CF "fars"
def insR (CR : Addr) (n : Nat) (rs : List Row) (s : Nat) : MO := .ins CR [("many", .d (.int n)), ("listed", .d (.tuple (rowsD rs))), ("states", .r s)]
def insF (CF : Addr) (i n : Nat) (f : Tab) : MO := .ins CF [("roads", .r i), ("fars", .d (tabD n f))]
/-- a Roads at i, its states at s -/
structure Ra (CR : Addr) (m : Mm) (i n : Nat) (rs : List Row) (us : List Bool) (s : Nat) : Prop where
  o : m[i]? = some (insR CR n rs s)
  l : m[s]? = some (.lst (blsD us))
  e : us.length = rs.length
  g : Gr n rs
theorem mid_set (m t : Mm) (o o' : MO) : (m ++ o :: t).set m.length o' = m ++ o' :: t := by
  rw [List.set_append_right _ _ (Nat.le_refl _)]; simp
theorem mid_get (m t : Mm) (o : MO) : (m ++ o :: t)[m.length]? = some o := by
  rw [List.getElem?_append_right (Nat.le_refl _)]; simp
def sRi (CR : Addr) (xs : List MV) (m : Mm) (Q : QV) : Prop := ∃ (m0 : Mm) (n : Nat) (rs : List Row), m = m0 ++ [.ins CR []] ∧ xs = [.r m0.length, .d (.int n), .d (.tuple (rowsD rs))] ∧ Gr n rs ∧ Q (.d .none) (m0 ++ [insR CR n rs (m0.length + 1), .lst (blsD (List.replicate rs.length true))])
def sRplace (CR : Addr) (xs : List MV) (m : Mm) (Q : QV) : Prop := ∃ (i n : Nat) (rs : List Row) (us : List Bool) (s a b k : Nat) (r : Row), xs = [.r i, .d (.int a), .d (.int b)] ∧ Ra CR m i n rs us s ∧ rs[k]? = some r ∧ ((a = r.a ∧ b = r.b) ∨ (a = r.b ∧ b = r.a)) ∧ Q (.d (.int k)) m
def sRchange (CR : Addr) (xs : List MV) (m : Mm) (Q : QV) : Prop := ∃ (i n : Nat) (rs : List Row) (us : List Bool) (s a b k : Nat) (r : Row) (st : Bool), xs = [.r i, .d (.int a), .d (.int b), .d (.bool st)] ∧ Ra CR m i n rs us s ∧ rs[k]? = some r ∧ ((a = r.a ∧ b = r.b) ∨ (a = r.b ∧ b = r.a)) ∧ us[k]? = some (!st) ∧ Q (.d .none) (m.set s (.lst (blsD (us.set k st))))
def sRput (CR : Addr) (st : Bool) (xs : List MV) (m : Mm) (Q : QV) : Prop := ∃ (i n : Nat) (rs : List Row) (us : List Bool) (s a b k : Nat) (r : Row), xs = [.r i, .d (.int a), .d (.int b)] ∧ Ra CR m i n rs us s ∧ rs[k]? = some r ∧ ((a = r.a ∧ b = r.b) ∨ (a = r.b ∧ b = r.a)) ∧ us[k]? = some (!st) ∧ Q (.d .none) (m.set s (.lst (blsD (us.set k st))))
def sRneigh (CR : Addr) (xs : List MV) (m : Mm) (Q : QV) : Prop := ∃ (i n : Nat) (rs : List Row) (us : List Bool) (s h : Nat), xs = [.r i, .d (.int h)] ∧ Ra CR m i n rs us s ∧ ∀ ns : List Tri, ns.Perm (near h rs us) → Q (.d (trisD ns)) m
section
variable {P : Program} {w : World} {K : PySem.W.Frag} {mg : Str → Option Value} {base : Heap} {f : Addr} {fd : FuncData} {CR CF : Addr}
theorem ok_Ri (F : Fun K "__init__" "Roads.__init__" (stR 0) f fd) (B : Bt mg) (T : Kc K CR CF) (C1 : Cal P w K mg base 3 "is_outline" 2 sOutline) (C2 : Cal P w K mg base 4 "first_wrong_road" 2 sFirst) : FnOk P w K mg base CX0 5 f fd ["self", "houses", "roads"] (spM K (sRi CR)) := by
  refine fn_m F scRi (fun xs m Q h => by obtain ⟨_, _, _, _, rfl, _⟩ := h; rfl) fun X Fm xs m Q ⟨m0, n, rs, em, ex, gr, q⟩ hs => ?_
  subst ex em
  have l14 : (rowsD rs).length ≤ 14 := by unfold rowsD; rw [List.length_map]; exact gr.len
  refine ws_cons ?_
  walk_at "w"
  refine ⟨n, rowsD rs, rfl, gr.n1, gr.n8, l14, _, rfl, L2.iteF ?_⟩
  walk_at "w"
  refine ⟨n, rs, rfl, gr, ?_⟩
  walk_at "w"
  refine o_notN ⟨_, rfl, L2.iteF ?_⟩
  walk_at "w"
  refine ⟨_, CR, [], rfl, last_get _ _, T.clR, T.many, by show 0 < 1000; decide, ?_⟩
  rw [last_set]
  walk_at "w"
  refine ⟨_, CR, _, rfl, last_get _ _, T.clR, T.listed, by show 1 < 1000; decide, ?_⟩
  rw [last_set]
  walk_at "w"
  refine ⟨by simp, .inl ⟨[.bool true], rfl, ?_⟩⟩
  walk_at "w"
  refine ⟨_, rfl, ?_⟩
  refine o_rep rfl (by omega) (by simp; omega) (by simp; omega) (.inr ?_)
  walk_at "w"
  rw [List.append_assoc]
  refine ⟨_, CR, _, rfl, mid_get _ _ _, T.clR, T.states, by show 2 < 1000; decide, ?_⟩
  show Ws _ _ _ _ ((m0 ++ _ :: _).set m0.length _) _
  rw [mid_set]
  walk_at "w"
  refine .inl ?_
  have e1 : (List.replicate (Int.toNat (((rowsD rs).map MV.d).length : Nat)) [MV.d (PyData.bool true)]).flatten = blsD (List.replicate rs.length true) := by
    have : Int.toNat (((rowsD rs).map MV.d).length : Nat) = rs.length := by simp [rowsD]
    rw [this]
    generalize rs.length = k
    induction k with
    | zero => rfl
    | succ k ih => rw [List.replicate_succ, List.flatten_cons, ih]; rfl
  rw [← e1] at q
  simp only [List.length_append, List.length_singleton] at q ⊢
  exact q
theorem bls_at {us : List Bool} {k : Nat} {b : Bool} (h : us[k]? = some b) : (blsD us)[k]? = some (.d (.bool b)) := by unfold blsD; rw [List.getElem?_map, h]; rfl
theorem row_uniq {n : Nat} {rs : List Row} (g : Gr n rs) {i k : Nat} {q r : Row} (hq : rs[i]? = some q) (hr : rs[k]? = some r) (hlt : i < k) : ¬ (q.a = r.a ∧ q.b = r.b) := by
  have h1 := List.pairwise_iff_getElem.mp g.inc i k (List.getElem?_eq_some_iff.mp hq).1 (List.getElem?_eq_some_iff.mp hr).1 hlt
  rw [(List.getElem?_eq_some_iff.mp hq).2, (List.getElem?_eq_some_iff.mp hr).2] at h1
  rcases h1 with h | h <;> omega
theorem eqv_ii (a b c d : Int) : PyData.eqv (.tuple [.int a, .int b]) (.tuple [.int c, .int d]) = decide (a = c ∧ b = d) := by
  show (PyData.eqv (.int a) (.int c) && (PyData.eqv (.int b) (.int d) && true)) = _
  rw [eqv_int, eqv_int]
  by_cases h : a = c <;> by_cases h2 : b = d <;> simp [h, h2]
theorem ok_Rplace (F : Fun K "place_of" "Roads.place_of" (stR 7) f fd) (B : Bt mg) (T : Kc K CR CF) (C1 : Cal P w K mg base 1 "is_whole" 1 sIsWhole) : FnOk P w K mg base CX0 2 f fd ["self", "a", "b"] (spM K (sRplace CR)) := by
  refine fn_m F scRplace (fun xs m Q h => by obtain ⟨_, _, _, _, _, _, _, _, _, rfl, _⟩ := h; rfl) fun X Fm xs m Q ⟨i, n, rs, us, s, a, b, k, r, ex, ra, hr, hab, q⟩ hs => ?_
  subst ex
  have okr := ra.g.row r (List.mem_of_getElem? hr)
  refine ws_cons ?_
  walk_at "w"
  refine ⟨_, _, rfl, rfl, _, rfl, L2.iteF ?_⟩
  walk_at "w"
  refine ⟨_, _, rfl, rfl, _, rfl, L2.iteF ?_⟩
  walk_at "w"
  refine ws_for Fm (wi_enum Fm B.enumerate ?_)
  walk_at "w"
  refine ⟨_, CR, _, _, rfl, ra.o, T.clR, T.listed, rfl, ?_⟩
  walk_at "w"
  refine ⟨_, rowsD rs, rfl, rfl, fun j ρ' m' => m = m' ∧ j ≤ k ∧ ∃ u v, ρ' = [some (.r i), some (.d (.int a)), some (.d (.int b)), u, v], ⟨rfl, Nat.zero_le _, none, none, rfl⟩, fun _ _ _ _ _ => rfl, ?_, ?_⟩
  · rintro j x ρ' m' hx ⟨rfl, hj, u, v, rfl⟩
    obtain ⟨d, hd, rfl⟩ := enumD_some hx
    obtain ⟨t, ht, rfl⟩ := rowsD_get hd
    have okt := ra.g.row t (List.mem_of_getElem? ht)
    have l1 := okr.ab
    have l2 := okt.ab
    walk_at "w"
    refine ⟨_, rfl, .inl ⟨_, rfl, by show ¬ (HT.sIx 4 0 none = 0 ∧ HT.sIx 4 4 (some 2) = 4); decide, ?_⟩⟩
    walk_at "w"
    refine ⟨[.int a, .int b], rfl, by simp, ?_⟩
    refine o_eq Fm (d := .tuple [.int t.a, .int t.b]) (e := .tuple [.int a, .int b]) rfl rfl rfl rfl (by simp [PyData.depth, PyData.depthAll]) ⟨_, rfl, ?_⟩
    rw [eqv_ii]
    by_cases hjk : j = k
    · subst hjk
      rw [ht] at hr
      cases hr
      rcases hab with ⟨rfl, rfl⟩ | ⟨rfl, rfl⟩
      · rw [decide_eq_true ⟨rfl, rfl⟩]
        refine L2.iteT (L2.iteT ?_)
        walk_at "w"
        exact .inl q
      · rw [decide_eq_false (by omega)]
        refine L2.iteF ?_
        walk_at "w"
        refine ⟨_, rfl, .inl ⟨_, rfl, by show ¬ (HT.sIx 4 0 none = 0 ∧ HT.sIx 4 4 (some 2) = 4); decide, ?_⟩⟩
        walk_at "w"
        refine ⟨[.int r.a, .int r.b], rfl, by simp, ?_⟩
        refine o_eq Fm (d := .tuple [.int r.a, .int r.b]) (e := .tuple [.int r.a, .int r.b]) rfl rfl rfl rfl (by simp [PyData.depth, PyData.depthAll]) ⟨_, rfl, ?_⟩
        rw [eqv_ii, decide_eq_true ⟨rfl, rfl⟩]
        refine L2.iteT ?_
        walk_at "w"
        exact .inl q
    · have hne := row_uniq ra.g ht hr (by omega)
      rw [decide_eq_false (by omega)]
      refine L2.iteF ?_
      walk_at "w"
      refine ⟨_, rfl, .inl ⟨_, rfl, by show ¬ (HT.sIx 4 0 none = 0 ∧ HT.sIx 4 4 (some 2) = 4); decide, ?_⟩⟩
      walk_at "w"
      refine ⟨[.int b, .int a], rfl, by simp, ?_⟩
      refine o_eq Fm (d := .tuple [.int t.a, .int t.b]) (e := .tuple [.int b, .int a]) rfl rfl rfl rfl (by simp [PyData.depth, PyData.depthAll]) ⟨_, rfl, ?_⟩
      rw [eqv_ii, decide_eq_false (by omega)]
      refine L2.iteF ?_
      walk_at "w"
      exact ⟨rfl, by omega, _, _, rfl⟩
  · rintro ρ' m' ⟨rfl, hj, _⟩
    have := (List.getElem?_eq_some_iff.mp hr).1
    rw [enumD_len] at hj
    unfold rowsD at hj
    rw [List.length_map] at hj
    omega
theorem ok_Rchange (F : Fun K "change" "Roads.change" (stR 6) f fd) (B : Bt mg) (T : Kc K CR CF) (C1 : Cam P w K mg base 2 CR "place_of" (sRplace CR)) : FnOk P w K mg base CX0 3 f fd ["self", "a", "b", "state"] (spM K (sRchange CR)) := by
  refine fn_m F scRchange (fun xs m Q h => by obtain ⟨_, _, _, _, _, _, _, _, _, _, rfl, _⟩ := h; rfl) fun X Fm xs m Q ⟨i, n, rs, us, s, a, b, k, r, st, ex, ra, hr, hab, hu, q⟩ hs => ?_
  subst ex
  refine ws_cons ?_
  walk_at "w"
  refine ⟨i, _, rfl, ra.o, rfl, ?_⟩
  walk_at "w"
  refine ⟨i, n, rs, us, s, a, b, k, r, rfl, ra, hr, hab, ?_⟩
  walk_at "w"
  refine o_isN ⟨_, rfl, L2.iteF ?_⟩
  walk_at "w"
  refine ⟨_, CR, _, _, rfl, ra.o, T.clR, T.states, rfl, ?_⟩
  walk_at "w"
  refine ix_w Fm (seqOf_r ra.l) (atI_of (bls_at hu) rfl) ?_
  walk_at "w"
  refine o_eq Fm rfl rfl rfl rfl (by simp [PyData.depth]) ⟨_, rfl, ?_⟩
  have e1 : PyData.eqv (.bool (!st)) (.bool st) = false := by cases st <;> rfl
  rw [e1]
  refine L2.iteF ?_
  walk_at "w"
  refine ⟨_, CR, _, _, rfl, ra.o, T.clR, T.states, rfl, ?_⟩
  walk_at "w"
  refine setw_list ra.l (ixN_of (by unfold blsD; rw [List.length_map]; exact (List.getElem?_eq_some_iff.mp hu).1) rfl) ?_
  walk_at "w"
  refine .inl ?_
  have e2 : (blsD us).set k (.d (.bool st)) = blsD (us.set k st) := by unfold blsD; rw [List.map_set]
  rw [e2]
  exact q
theorem ok_Rfall (F : Fun K "fall" "Roads.fall" (stR 2) f fd) (T : Kc K CR CF) (C1 : Cam P w K mg base 3 CR "change" (sRchange CR)) : FnOk P w K mg base CX0 4 f fd ["self", "a", "b"] (spM K (sRput CR false)) := by
  refine fn_m F scRfall (fun xs m Q h => by obtain ⟨_, _, _, _, _, _, _, _, _, rfl, _⟩ := h; rfl) fun X Fm xs m Q ⟨i, n, rs, us, s, a, b, k, r, ex, ra, hr, hab, hu, q⟩ hs => ?_
  subst ex
  refine ws_cons ?_
  walk_at "w"
  refine ⟨i, _, rfl, ra.o, rfl, ?_⟩
  walk_at "w"
  refine ⟨i, n, rs, us, s, a, b, k, r, false, rfl, ra, hr, hab, hu, ?_⟩
  walk_at "w"
  exact .inl q
theorem ok_Rrise (F : Fun K "rise" "Roads.rise" (stR 3) f fd) (T : Kc K CR CF) (C1 : Cam P w K mg base 3 CR "change" (sRchange CR)) : FnOk P w K mg base CX0 4 f fd ["self", "a", "b"] (spM K (sRput CR true)) := by
  refine fn_m F scRrise (fun xs m Q h => by obtain ⟨_, _, _, _, _, _, _, _, _, rfl, _⟩ := h; rfl) fun X Fm xs m Q ⟨i, n, rs, us, s, a, b, k, r, ex, ra, hr, hab, hu, q⟩ hs => ?_
  subst ex
  refine ws_cons ?_
  walk_at "w"
  refine ⟨i, _, rfl, ra.o, rfl, ?_⟩
  walk_at "w"
  refine ⟨i, n, rs, us, s, a, b, k, r, true, rfl, ra, hr, hab, hu, ?_⟩
  walk_at "w"
  exact .inl q
theorem ok_Rneigh (F : Fun K "neighbours" "Roads.neighbours" (stR 4) f fd) (T : Kc K CR CF) (C1 : Cal P w K mg base 1 "neighbours_by" 3 sNeigh) : FnOk P w K mg base CX0 2 f fd ["self", "house"] (spM K (sRneigh CR)) := by
  refine fn_m F scRneigh (fun xs m Q h => by obtain ⟨_, _, _, _, _, _, rfl, _⟩ := h; rfl) fun X Fm xs m Q ⟨i, n, rs, us, s, h, ex, ra, q⟩ hs => ?_
  subst ex
  refine ws_cons ?_
  walk_at "w"
  refine ⟨_, CR, _, _, rfl, ra.o, T.clR, T.listed, rfl, ?_⟩
  walk_at "w"
  refine ⟨_, CR, _, _, rfl, ra.o, T.clR, T.states, rfl, ?_⟩
  walk_at "w"
  exact ⟨rs, .r s, us, h, rfl, seqOf_r ra.l, ra.g.len, ra.e, fun ns hp => .inl (q ns hp)⟩
end

end Wn
set_option Elab.async false
set_option linter.all false
set_option maxRecDepth 100000
set_option maxHeartbeats 2000000
set_option autoImplicit false
set_option pp.maxSteps 600
namespace Wn
open PySem L2
local macro_rules | `(tactic| walk_at "fam") => `(tactic| first | assumption | exact Fam.blk (by assumption) _ | exact Fam.blk (Fam.blk (by assumption) _) _)
local macro_rules | `(tactic| walk_at "at") => `(tactic| with_reducible first | exact At.z | exact At.s At.z | exact At.s (At.s At.z) | exact At.s (At.s (At.s At.z)) | exact At.s (At.s (At.s (At.s At.z))) | exact At.s (At.s (At.s (At.s (At.s At.z)))) | exact At.s (At.s (At.s (At.s (At.s (At.s At.z))))) | exact At.s (At.s (At.s (At.s (At.s (At.s (At.s At.z)))))) | exact At.s (At.s (At.s (At.s (At.s (At.s (At.s (At.s At.z))))))) | exact At.s (At.s (At.s (At.s (At.s (At.s (At.s (At.s (At.s At.z)))))))) | exact At.s (At.s (At.s (At.s (At.s (At.s (At.s (At.s (At.s (At.s At.z))))))))) | exact At.s (At.s (At.s (At.s (At.s (At.s (At.s (At.s (At.s (At.s (At.s At.z)))))))))) | exact At.s (At.s (At.s (At.s (At.s (At.s (At.s (At.s (At.s (At.s (At.s (At.s At.z))))))))))) | exact At.s (At.s (At.s (At.s (At.s (At.s (At.s (At.s (At.s (At.s (At.s (At.s (At.s At.z)))))))))))) | exact At.s (At.s (At.s (At.s (At.s (At.s (At.s (At.s (At.s (At.s (At.s (At.s (At.s (At.s At.z))))))))))))) | exact At.s (At.s (At.s (At.s (At.s (At.s (At.s (At.s (At.s (At.s (At.s (At.s (At.s (At.s (At.s At.z)))))))))))))) | exact At.s (At.s (At.s (At.s (At.s (At.s (At.s (At.s (At.s (At.s (At.s (At.s (At.s (At.s (At.s (At.s At.z))))))))))))))) | exact At.s (At.s (At.s (At.s (At.s (At.s (At.s (At.s (At.s (At.s (At.s (At.s (At.s (At.s (At.s (At.s (At.s At.z)))))))))))))))) | exact At.s (At.s (At.s (At.s (At.s (At.s (At.s (At.s (At.s (At.s (At.s (At.s (At.s (At.s (At.s (At.s (At.s (At.s At.z))))))))))))))))) | exact At.s (At.s (At.s (At.s (At.s (At.s (At.s (At.s (At.s (At.s (At.s (At.s (At.s (At.s (At.s (At.s (At.s (At.s (At.s At.z)))))))))))))))))) | exact At.s (At.s (At.s (At.s (At.s (At.s (At.s (At.s (At.s (At.s (At.s (At.s (At.s (At.s (At.s (At.s (At.s (At.s (At.s (At.s At.z))))))))))))))))))) | exact At.s (At.s (At.s (At.s (At.s (At.s (At.s (At.s (At.s (At.s (At.s (At.s (At.s (At.s (At.s (At.s (At.s (At.s (At.s (At.s (At.s At.z)))))))))))))))))))))
local macro_rules | `(tactic| walk_at "call") => `(tactic| first
  | ((with_reducible show We _ _ (.Call (.Name "len" _) _ _ _) _ _ _); refine b_len (by walk_at "fam") (by assumption) ?_)
  | ((with_reducible show We _ _ (.Call (.Name "isinstance" _) [_, .Name "int" _] _ _) _ _ _); refine b_isiInt (by walk_at "fam") (by assumption) ?_)
  | ((with_reducible show We _ _ (.Call (.Name "isinstance" _) [_, .Name "bool" _] _ _) _ _ _); refine b_isiBool (by walk_at "fam") (by assumption) ?_)
  | ((with_reducible show We _ _ (.Call (.Name "isinstance" _) [_, .Name "tuple" _] _ _) _ _ _); refine b_isiTup (by walk_at "fam") (by assumption) ?_)
  | ((with_reducible show We _ _ (.Call (.Name "abs" _) _ _ _) _ _ _); refine b_abs (by walk_at "fam") (by assumption) ?_)
  | ((with_reducible show We _ _ (.Call (.Name "int" _) _ _ _) _ _ _); refine b_intB (by walk_at "fam") (by assumption) ?_)
  | ((with_reducible show We _ _ (.Call (.Name "tuple" _) _ _ _) _ _ _); refine b_tup (by walk_at "fam") (by assumption) ?_)
  | ((with_reducible show We _ _ (.Call (.Name "list" _) [.Call (.Name "range" _) _ _ _] _ _) _ _ _); refine we_listRg (by walk_at "fam") (Bt.list (by assumption)) (Bt.range (by assumption)) ?_)
  | ((with_reducible show We _ _ (.Call (.Name "list" _) _ _ _) _ _ _); refine b_lst (by walk_at "fam") (by assumption) ?_)
  | ((with_reducible show We _ _ (.Call (.Name "min" _) [_, _] _ _) _ _ _); refine b_min2 (by walk_at "fam") (by assumption) ?_)
  | ((with_reducible show We _ _ (.Call (.Name "min" _) [_] [_] _) _ _ _); refine we_minDD (by walk_at "fam") (Bt.min (by assumption)) ?_)
  | ((with_reducible show We _ _ (.Call (.Name "min" _) [_] [] _) _ _ _); refine b_min1 (by walk_at "fam") (by assumption) ?_)
  | ((with_reducible show We _ _ (.Call (.Name "sorted" _) _ _ _) _ _ _); refine b_sorted (by walk_at "fam") (by assumption) ?_)
  | ((with_reducible show We _ _ (.Call (.Attribute _ "append" _) _ _ _) _ _ _); refine we_append (by walk_at "fam") ?_)
  | ((with_reducible show We _ _ (.Call (.Name _ _) _ _ _) _ _ _); refine we_call (by walk_at "fam") (by assumption) (by decide) ?_)
  | ((with_reducible show We _ _ (.Call (.Name _ _) _ _ _) _ _ _); refine we_make (by walk_at "fam") (by assumption) (by decide) ?_)
  | ((with_reducible show We _ _ (.Call (.Attribute _ _ _) (_ :: _) _ _) _ _ _); refine we_meth (by walk_at "fam") (by assumption) (by decide) ?_)
  | ((with_reducible show We _ _ (.Call (.Attribute _ _ _) [] _ _) _ _ _); refine we_meth0 (by walk_at "fam") (by assumption) (by decide) ?_))
local macro_rules | `(tactic| walk_at "e") => `(tactic| first
  | ((with_reducible show We _ _ (.Name _ _) _ _ _); first | refine we_varA (by walk_at "fam") (by walk_at "at") (by rfl) ?_ | refine we_gint (by walk_at "fam") (by assumption) ?_)
  | ((with_reducible show We _ _ (.Constant _ _ _) _ _ _); first | refine we_int ?_ | refine we_bl ?_ | refine we_non ?_ | refine we_str ?_)
  | ((with_reducible show We _ _ (.BinOp _ _ _ _) _ _ _); refine we_bin ?_)
  | ((with_reducible show We _ _ (.Compare _ [_] _ _) _ _ _); refine we_cmp ?_)
  | ((with_reducible show We _ _ (.Compare _ [_, _] _ _) _ _ _); refine we_chain ?_)
  | ((with_reducible show We _ _ (.BoolOp _ [_] _) _ _ _); refine we_one ?_)
  | ((with_reducible show We _ _ (.BoolOp .And _ _) _ _ _); refine we_and ?_)
  | ((with_reducible show We _ _ (.BoolOp .Or _ _) _ _ _); refine we_or ?_)
  | ((with_reducible show We _ _ (.UnaryOp .Not _ _) _ _ _); refine we_not ?_)
  | ((with_reducible show We _ _ (.IfExp _ _ _ _) _ _ _); refine we_ifExp ?_)
  | ((with_reducible show We _ _ (.Tuple _ _ _) _ _ _); refine we_tup ?_)
  | ((with_reducible show We _ _ (.List _ _) _ _ _); refine we_lst ?_)
  | ((with_reducible show We _ _ (.Subscript _ (.Slice _ _ _ _) _) _ _ _); refine we_slice (by walk_at "fam") ?_)
  | ((with_reducible show We _ _ (.Subscript _ _ _) _ _ _); refine we_ix ?_)
  | ((with_reducible show We _ _ (.Attribute _ _ _) _ _ _); refine we_fld (by walk_at "fam") ?_)
  | walk_at "call"
  | ((with_reducible show Wo _ _ none _ _ _); refine wo_none ?_)
  | ((with_reducible show Wo _ _ (some _) _ _ _); refine wo_some ?_)
  | ((with_reducible show Wr _ _ [] _ _ _); refine wr_nil ?_)
  | ((with_reducible show Wr _ _ (_ :: _) _ _ _); refine wr_cons ?_)
  | ((with_reducible show Wt _ _ (.UnaryOp .Not _ _) _ _ _); refine wt_not ?_)
  | ((with_reducible show Wt _ _ (.BoolOp .And _ _) _ _ _); refine wt_w (ww_and ?_))
  | ((with_reducible show Wt _ _ (.BoolOp .Or _ _) _ _ _); refine wt_w (ww_or ?_))
  | ((with_reducible show Wt _ _ (.Compare _ [_] _ _) _ _ _); refine wt_cmp ?_)
  | ((with_reducible show Wt _ _ _ _ _ _); refine wt_val ?_)
  | ((with_reducible show Ww _ _ (.BoolOp .And [_] _) _ _ _); refine ww_and1 ?_)
  | ((with_reducible show Ww _ _ (.BoolOp .Or [_] _) _ _ _); refine ww_or1 ?_)
  | ((with_reducible show Ww _ _ (.BoolOp .And _ _) _ _ _); refine ww_and ?_)
  | ((with_reducible show Ww _ _ (.BoolOp .Or _ _) _ _ _); refine ww_or ?_)
  | ((with_reducible show Ws _ _ [] _ _ _); refine ws_nil ?_)
  | ((with_reducible show Ws _ _ (_ :: _) _ _ _); refine ws_cons ?_)
  | ((with_reducible show Ws1 _ _ (.Return (some _) _) _ _ _); refine ws_ret ?_)
  | ((with_reducible show Ws1 _ _ (.If _ _ _ _) _ _ _); refine ws_if ?_)
  | ((with_reducible show Ws1 _ _ (.Expr _ _) _ _ _); refine ws_expr ?_)
  | ((with_reducible show Ws1 _ _ (.Assign [.Name _ _] (.ListComp _ _ _ _) _) _ _ _); fail)
  | ((with_reducible show Ws1 _ _ (.Assign [.Name _ _] _ _) _ _ _); refine ws_setA (by walk_at "fam") (by walk_at "at") ?_)
  | ((with_reducible show Ws1 _ _ (.Assign [.Attribute _ _ _] _ _) _ _ _); refine ws_fld (by walk_at "fam") ?_)
  | ((with_reducible show Ws1 _ _ (.Assign [_] _ _) _ _ _); refine ws_asg ?_)
  | ((with_reducible show Wts _ _ [] _ _ _); refine wts_nil ?_)
  | ((with_reducible show Wts _ _ [_] _ _ _); refine wts_one ?_)
  | ((with_reducible show Wg _ _ _ (.Name _ _) _ _ _ _); refine wg_nameA (by walk_at "fam") (by walk_at "at") ?_)
  | ((with_reducible show Wg _ _ _ (.Tuple _ _ _) _ _ _ _); refine wg_tup (by walk_at "fam") ?_)
  | ((with_reducible show Wg _ _ _ (.Subscript _ _ _) _ _ _ _); refine wg_sub ?_)
  | refine wgs_nil ?_ | refine wgs_cons ?_)
local macro_rules | `(tactic| walk_at "w") => `(tactic| repeat walk_at "e")
def sFnears (CR CF : Addr) (xs : List MV) (m : Mm) (Q : QV) : Prop := ∃ (j i n : Nat) (fs : List (Str × MV)) (rs : List Row) (us : List Bool) (s : Nat), xs = [.r j] ∧ m[j]? = some (.ins CF fs) ∧ fs.lookup ("roads" : Str) = some (.r i) ∧ Ra CR m i n rs us s ∧ ∀ g : Nat → List Tri, (∀ h, h < n → (g h).Perm (near h rs us)) → Q (.d (nbsD n g)) m
def sFhas (CR CF : Addr) (xs : List MV) (m : Mm) (Q : QV) : Prop := ∃ (j i n : Nat) (f : Tab) (rs : List Row) (us : List Bool) (s h : Nat), xs = [.r j, .d (.int h)] ∧ m[j]? = some (insF CF i n f) ∧ Ra CR m i n rs us s ∧ h < n ∧ Q (.d (.bool true)) m
def sFfar (CR CF : Addr) (xs : List MV) (m : Mm) (Q : QV) : Prop := ∃ (j i n : Nat) (f : Tab) (rs : List Row) (us : List Bool) (s h o : Nat), xs = [.r j, .d (.int h), .d (.int o)] ∧ m[j]? = some (insF CF i n f) ∧ Ra CR m i n rs us s ∧ h < n ∧ o < n ∧ Q (.d (.int (f h o))) m
def sFrows (CF : Addr) (xs : List MV) (m : Mm) (Q : QV) : Prop := ∃ (j i n : Nat) (f : Tab), xs = [.r j] ∧ m[j]? = some (insF CF i n f) ∧ Q (.d (tabD n f)) m
def sFturn (CR CF : Addr) (xs : List MV) (m : Mm) (Q : QV) : Prop := ∃ (j i n : Nat) (f : Tab) (rs : List Row) (us : List Bool) (s : Nat), xs = [.r j] ∧ m[j]? = some (insF CF i n f) ∧ Ra CR m i n rs us s ∧ ∀ g : Nat → List Tri, (∀ h, h < n → (g h).Perm (near h rs us)) → Q (.d .none) (m.set j (insF CF i n (Tn g f)))
def sFi (CR CF : Addr) (xs : List MV) (m : Mm) (Q : QV) : Prop := ∃ (m0 : Mm) (i n : Nat) (rs : List Row) (us : List Bool) (s : Nat), m = m0 ++ [.ins CF []] ∧ xs = [.r m0.length, .r i] ∧ Ra CR m0 i n rs us s ∧ ∀ (g : Nat → List Tri) (f : Tab), (∀ h, h < n → (g h).Perm (near h rs us)) → Fix n g f → Q (.d .none) (m0 ++ [insF CF i n f])
/-- the next house: l the ways (reach, house) -/
def IsNext (l : List (Int × Nat)) (r : PyData) : Prop := (l = [] ∧ r = .none) ∨ ∃ q ∈ l, (∀ p ∈ l, q.1 < p.1 ∨ (q.1 = p.1 ∧ q.2 ≤ p.2)) ∧ r = if q.1 < 24 then .int (q.2 : Nat) else .none
def sFnext (CR CF : Addr) (xs : List MV) (m : Mm) (Q : QV) : Prop := ∃ (j i n : Nat) (f : Tab) (rs : List Row) (us : List Bool) (s h o : Nat), xs = [.r j, .d (.int h), .d (.int o)] ∧ m[j]? = some (insF CF i n f) ∧ Ra CR m i n rs us s ∧ h < n ∧ o < n ∧ h ≠ o ∧ ∀ r, IsNext ((near h rs us).map fun t => ((t.d : Int) + f t.h o, t.h)) r → Q (.d r) m
theorem near_mem {h : Nat} : ∀ {rs : List Row} {us : List Bool} {t : Tri}, t ∈ near h rs us ↔ ∃ (k : Nat) (r : Row), rs[k]? = some r ∧ us[k]? = some true ∧ ((r.a = h ∧ t = ⟨r.b, r.d, r.s⟩) ∨ (r.a ≠ h ∧ r.b = h ∧ t = ⟨r.a, r.d, r.s⟩))
  | [], us, t => by simp [near]
  | r :: rs, [], t => by simp [near]
  | r :: rs, u :: us, t => by
    have ih := near_mem (h := h) (rs := rs) (us := us) (t := t)
    have step : (∃ (k : Nat) (q : Row), (r :: rs)[k]? = some q ∧ (u :: us)[k]? = some true ∧ ((q.a = h ∧ t = ⟨q.b, q.d, q.s⟩) ∨ (q.a ≠ h ∧ q.b = h ∧ t = ⟨q.a, q.d, q.s⟩))) ↔ ((u = true ∧ ((r.a = h ∧ t = ⟨r.b, r.d, r.s⟩) ∨ (r.a ≠ h ∧ r.b = h ∧ t = ⟨r.a, r.d, r.s⟩))) ∨ t ∈ near h rs us) := by
      rw [ih]
      constructor
      · rintro ⟨k, q, h1, h2, h3⟩
        cases k with
        | zero => simp at h1 h2; subst h1 h2; exact .inl ⟨rfl, h3⟩
        | succ k => exact .inr ⟨k, q, by simpa using h1, by simpa using h2, h3⟩
      · rintro (⟨rfl, h3⟩ | ⟨k, q, h1, h2, h3⟩)
        · exact ⟨0, r, rfl, rfl, h3⟩
        · exact ⟨k + 1, q, by simpa using h1, by simpa using h2, h3⟩
    rw [step]
    have e : near h (r :: rs) (u :: us) = (if u = true ∧ r.a = h then ⟨r.b, r.d, r.s⟩ :: near h rs us else if u = true ∧ r.b = h then ⟨r.a, r.d, r.s⟩ :: near h rs us else near h rs us) := by rw [near]
    rw [e]
    by_cases h1 : u = true ∧ r.a = h
    · rw [if_pos h1, List.mem_cons]
      constructor
      · rintro (rfl | q)
        · exact .inl ⟨h1.1, .inl ⟨h1.2, rfl⟩⟩
        · exact .inr q
      · rintro (⟨_, (q | q)⟩ | q)
        · exact .inl q.2
        · exact absurd h1.2 q.1
        · exact .inr q
    · rw [if_neg h1]
      by_cases h2 : u = true ∧ r.b = h
      · rw [if_pos h2, List.mem_cons]
        constructor
        · rintro (rfl | q)
          · exact .inl ⟨h2.1, .inr ⟨fun z => h1 ⟨h2.1, z⟩, h2.2, rfl⟩⟩
          · exact .inr q
        · rintro (⟨hu, (q | q)⟩ | q)
          · exact absurd ⟨hu, q.1⟩ h1
          · exact .inl q.2.2
          · exact .inr q
      · rw [if_neg h2]
        constructor
        · exact .inr
        · rintro (⟨hu, (q | q)⟩ | q)
          · exact absurd ⟨hu, q.1⟩ h1
          · exact absurd ⟨hu, q.2.1⟩ h2
          · exact q
theorem near_lt {n h : Nat} {rs : List Row} {us : List Bool} (g : Gr n rs) : ∀ t ∈ near h rs us, t.h < n := by
  intro t ht
  obtain ⟨k, r, hr, _, q⟩ := near_mem.mp ht
  have ok := g.row r (List.mem_of_getElem? hr)
  have := ok.ab
  have := ok.bn
  rcases q with ⟨_, rfl⟩ | ⟨_, _, rfl⟩
  · exact ok.bn
  · show r.a < n; omega
theorem nb_of {n : Nat} {rs : List Row} {us : List Bool} {g : Nat → List Tri} (gr : Gr n rs) (h : ∀ h, h < n → (g h).Perm (near h rs us)) : Nb n g :=
  ⟨gr.n8, fun i hi t ht => near_lt gr t ((h i hi).mem_iff.mp ht), fun i hi => by rw [(h i hi).length_eq]; exact Nat.le_trans (near_len rs us) gr.len⟩
section
variable {P : Program} {w : World} {K : PySem.W.Frag} {mg : Str → Option Value} {base : Heap} {f : Addr} {fd : FuncData} {CR CF : Addr}
theorem ok_Fnears (F : Fun K "nears" "Fars.nears" (stF 6) f fd) (B : Bt mg) (T : Kc K CR CF) (C1 : Cam P w K mg base 2 CR "neighbours" (sRneigh CR)) : FnOk P w K mg base CX0 3 f fd ["self"] (spM K (sFnears CR CF)) := by
  refine fn_m F scFnears (fun xs m Q h => by obtain ⟨_, _, _, _, _, _, _, rfl, _⟩ := h; rfl) fun X Fm xs m Q ⟨j, i, n, fs, rs, us, s, ex, hj, hl, ra, q⟩ hs => ?_
  subst ex
  have n8 := ra.g.n8
  refine ws_cons (ws_ret (we_lc Fm [("house", 1)] (wi_range1 Fm B.range ?_)))
  walk_at "w"
  refine ⟨_, CF, _, _, rfl, hj, T.clF, T.roads, hl, ?_⟩
  refine ⟨_, CR, _, _, rfl, ra.o, T.clR, T.many, rfl, ?_⟩
  walk_at "w"
  refine ⟨n, rfl, by omega, by omega, by rw [rangeM_len]; omega, fun k acc m' => m = m' ∧ ∃ g : Nat → List Tri, (∀ h, h < k → (g h).Perm (near h rs us)) ∧ acc = ((List.range k).map fun i => trisD (g i)).map .d, ⟨rfl, fun _ => [], fun h hh => by omega, rfl⟩, fun _ _ _ _ _ => trivial, ?_, ?_⟩
  · rintro k x acc m' hx ⟨rfl, g, hg, rfl⟩
    obtain ⟨hk, rfl⟩ := rangeM_some hx
    walk_at "w"
    refine L2.iteT ?_
    walk_at "w"
    refine ⟨_, CF, _, _, rfl, hj, T.clF, T.roads, hl, ?_⟩
    refine ⟨i, _, rfl, ra.o, rfl, ?_⟩
    walk_at "w"
    refine ⟨i, n, rs, us, s, k, by rw [Int.zero_add], ra, fun ns hp => ?_⟩
    refine ⟨rfl, fun h => if h = k then ns else g h, fun h hh => ?_, ?_⟩
    · dsimp only
      by_cases e : h = k
      · subst e; rw [if_pos rfl]; exact hp
      · rw [if_neg e]; exact hg h (by omega)
    · rw [List.range_succ, List.map_append, List.map_append]
      congr 1
      · congr 1
        apply List.map_congr_left
        intro h hh
        have : h ≠ k := by have := List.mem_range.mp hh; omega
        dsimp only
        rw [if_neg this]
      · simp
  · rintro acc m' ⟨rfl, g, hg, rfl⟩
    rw [rangeM_len] at hg ⊢
    have e : (n : Int).toNat = n := by omega
    rw [e] at hg ⊢
    exact .inl ⟨_, rfl, .inl (q g hg)⟩
theorem ok_Fhas (F : Fun K "has" "Fars.has" (stF 7) f fd) (T : Kc K CR CF) (C1 : Cal P w K mg base 2 "is_whole_within" 3 sWithin) : FnOk P w K mg base CX0 3 f fd ["self", "house"] (spM K (sFhas CR CF)) := by
  refine fn_m F scFhas (fun xs m Q h => by obtain ⟨_, _, _, _, _, _, _, _, rfl, _⟩ := h; rfl) fun X Fm xs m Q ⟨j, i, n, f, rs, us, s, h, ex, hj, ra, hh, q⟩ hs => ?_
  subst ex
  refine ws_cons ?_
  walk_at "w"
  refine ⟨_, CF, _, _, rfl, hj, T.clF, T.roads, rfl, ?_⟩
  refine ⟨_, CR, _, _, rfl, ra.o, T.clR, T.many, rfl, ?_⟩
  walk_at "w"
  refine o_sub ?_
  walk_at "w"
  refine ⟨_, _, _, rfl, ?_⟩
  rw [within_t (by omega) (by omega)]
  exact .inl q
theorem ok_Ffar (F : Fun K "far" "Fars.far" (stF 1) f fd) (T : Kc K CR CF) (C1 : Cam P w K mg base 3 CF "has" (sFhas CR CF)) : FnOk P w K mg base CX0 4 f fd ["self", "house", "other"] (spM K (sFfar CR CF)) := by
  refine fn_m F scFfar (fun xs m Q h => by obtain ⟨_, _, _, _, _, _, _, _, _, rfl, _⟩ := h; rfl) fun X Fm xs m Q ⟨j, i, n, f, rs, us, s, h, o, ex, hj, ra, hh, ho, q⟩ hs => ?_
  subst ex
  refine ws_cons ?_
  walk_at "w"
  refine ⟨j, _, rfl, hj, rfl, ?_⟩
  walk_at "w"
  refine ⟨j, i, n, f, rs, us, s, h, rfl, hj, ra, hh, _, rfl, L2.iteF ?_⟩
  walk_at "w"
  refine ⟨j, _, rfl, hj, rfl, ?_⟩
  walk_at "w"
  refine ⟨j, i, n, f, rs, us, s, o, rfl, hj, ra, ho, _, rfl, L2.iteF ?_⟩
  walk_at "w"
  refine ⟨_, CF, _, _, rfl, hj, T.clF, T.fars, rfl, ?_⟩
  walk_at "w"
  refine ix_w Fm (tab_seq _ n f) (atI_of (tab_at f hh) rfl) ?_
  walk_at "w"
  exact ix_w Fm rfl (atI_of (row_at (f h) ho) rfl) (.inl q)
theorem ok_Frows (F : Fun K "rows" "Fars.rows" (stF 4) f fd) (T : Kc K CR CF) : FnOk P w K mg base CX0 1 f fd ["self"] (spM K (sFrows CF)) := by
  refine fn_m F scFrows (fun xs m Q h => by obtain ⟨_, _, _, _, rfl, _⟩ := h; rfl) fun X Fm xs m Q ⟨j, i, n, f, ex, hj, q⟩ hs => ?_
  subst ex
  refine ws_cons ?_
  walk_at "w"
  exact ⟨_, CF, _, _, rfl, hj, T.clF, T.fars, rfl, .inl q⟩
theorem ok_Fturn (F : Fun K "turn" "Fars.turn" (stF 3) f fd) (T : Kc K CR CF) (C1 : Cam P w K mg base 3 CF "nears" (sFnears CR CF)) (C2 : Cal P w K mg base 3 "turned" 2 sTurned) : FnOk P w K mg base CX0 4 f fd ["self"] (spM K (sFturn CR CF)) := by
  refine fn_m F scFturn (fun xs m Q h => by obtain ⟨_, _, _, _, _, _, _, rfl, _⟩ := h; rfl) fun X Fm xs m Q ⟨j, i, n, f, rs, us, s, ex, hj, ra, q⟩ hs => ?_
  subst ex
  refine ws_cons ?_
  walk_at "w"
  refine ⟨_, CF, _, _, rfl, hj, T.clF, T.fars, rfl, ?_⟩
  walk_at "w"
  refine ⟨j, _, rfl, hj, rfl, ?_⟩
  refine ⟨j, i, n, _, rs, us, s, rfl, hj, rfl, ra, fun g hg => ?_⟩
  walk_at "w"
  refine ⟨n, f, g, rfl, nb_of ra.g hg, ?_⟩
  walk_at "w"
  refine ⟨_, CF, _, rfl, hj, T.clF, T.fars, by show 2 < 1000; decide, ?_⟩
  walk_at "w"
  exact .inl (q g hg)
theorem ok_Fi (F : Fun K "__init__" "Fars.__init__" (stF 0) f fd) (T : Kc K CR CF) (C1 : Cam P w K mg base 3 CF "nears" (sFnears CR CF)) (C2 : Cal P w K mg base 4 "settled" 1 sSettled) : FnOk P w K mg base CX0 5 f fd ["self", "roads"] (spM K (sFi CR CF)) := by
  refine fn_m F scFi (fun xs m Q h => by obtain ⟨_, _, _, _, _, _, _, rfl, _⟩ := h; rfl) fun X Fm xs m Q ⟨m0, i, n, rs, us, s, em, ex, ra, q⟩ hs => ?_
  subst ex em
  refine ws_cons ?_
  walk_at "w"
  refine ⟨_, CF, [], rfl, last_get _ _, T.clF, T.roads, by show 0 < 1000; decide, ?_⟩
  rw [last_set]
  walk_at "w"
  refine ⟨_, _, rfl, last_get _ _, rfl, ?_⟩
  refine ⟨m0.length, i, n, _, rs, us, s, rfl, last_get _ _, rfl, ⟨app_get ra.o, app_get ra.l, ra.e, ra.g⟩, fun g hg => ?_⟩
  walk_at "w"
  refine ⟨n, g, rfl, nb_of ra.g hg, fun f hf => ?_⟩
  walk_at "w"
  refine ⟨_, CF, _, rfl, last_get _ _, T.clF, T.fars, by show 1 < 1000; decide, ?_⟩
  rw [last_set]
  walk_at "w"
  exact .inl (q g f hg hf)
/-! next -/
def wayD (p : Int × Nat) : PyData := .tuple [.int p.1, .int p.2]
theorem min_ways : ∀ (ps : List (Int × Nat)) (p : Int × Nat), ∃ q ∈ p :: ps, (∀ z ∈ p :: ps, q.1 < z.1 ∨ (q.1 = z.1 ∧ q.2 ≤ z.2)) ∧ PySem.W.minD (wayD p) (ps.map wayD) = wayD q
  | [], p => ⟨p, List.mem_cons_self, fun z hz => by simp at hz; subst hz; exact .inr ⟨rfl, Nat.le_refl _⟩, rfl⟩
  | a :: ps, p => by
    have e : PySem.W.minD (wayD p) ((a :: ps).map wayD) = PySem.W.minD (if PySem.W.dataLt (wayD a) (wayD p) then wayD a else wayD p) (ps.map wayD) := rfl
    rw [e]
    have lt : PySem.W.dataLt (wayD a) (wayD p) = decide (a.1 < p.1 ∨ (a.1 = p.1 ∧ (a.2 : Int) < (p.2 : Int))) := PySem.W.dataLt_ii _ _ _ _
    rw [lt]
    by_cases h : a.1 < p.1 ∨ (a.1 = p.1 ∧ (a.2 : Int) < (p.2 : Int))
    · rw [decide_eq_true h, if_pos rfl]
      obtain ⟨q, hq, hm, hv⟩ := min_ways ps a
      refine ⟨q, List.mem_cons_of_mem _ hq, fun z hz => ?_, hv⟩
      rcases List.mem_cons.mp hz with rfl | hz
      · have := hm a List.mem_cons_self; omega
      · exact hm z hz
    · rw [decide_eq_false h, if_neg Bool.false_ne_true]
      obtain ⟨q, hq, hm, hv⟩ := min_ways ps p
      refine ⟨q, ?_, fun z hz => ?_, hv⟩
      · rcases List.mem_cons.mp hq with rfl | hq
        · exact List.mem_cons_self
        · exact List.mem_cons_of_mem _ (List.mem_cons_of_mem _ hq)
      · rcases List.mem_cons.mp hz with rfl | hz
        · exact hm z List.mem_cons_self
        · rcases List.mem_cons.mp hz with rfl | hz
          · have := hm p List.mem_cons_self; omega
          · exact hm z (List.mem_cons_of_mem _ hz)
theorem ways_plain : ∀ ps : List (Int × Nat), PyData.plainAll (ps.map wayD) = true
  | [] => rfl
  | _ :: ps => ways_plain ps
theorem ways_depth : ∀ ps : List (Int × Nat), PyData.depthAll (ps.map wayD) ≤ 10
  | [] => by simp [PyData.depthAll]
  | p :: ps => by have := ways_depth ps; simp [PyData.depthAll, PyData.depth, wayD] at this ⊢; omega
theorem ways_alike (ps : List (Int × Nat)) : PySem.W.AlikeAll (ps.map wayD) := by
  refine ⟨fun x hx y hy => ?_, fun x hx => ?_⟩
  · obtain ⟨p, _, rfl⟩ := List.mem_map.mp hx
    obtain ⟨q, _, rfl⟩ := List.mem_map.mp hy
    rfl
  · obtain ⟨p, _, rfl⟩ := List.mem_map.mp hx
    intro z; cases z
theorem ok_Fnext (F : Fun K "next" "Fars.next" (stF 2) f fd) (B : Bt mg) (I : Ci mg) (T : Kc K CR CF) (C1 : Cam P w K mg base 3 CF "has" (sFhas CR CF)) (C2 : Cal P w K mg base 1 "steps_to" 3 sSteps) (C3 : Cam P w K mg base 2 CR "neighbours" (sRneigh CR)) : FnOk P w K mg base CX0 4 f fd ["self", "house", "other"] (spM K (sFnext CR CF)) := by
  refine fn_m F scFnext (fun xs m Q h => by obtain ⟨_, _, _, _, _, _, _, _, _, rfl, _⟩ := h; rfl) fun X Fm xs m Q ⟨j, i, n, f, rs, us, s, h, o, ex, hj, ra, hh, ho, ne, q⟩ hs => ?_
  subst ex
  have c1 := I.FAR
  refine ws_cons ?_
  walk_at "w"
  refine o_eqI Fm ⟨_, rfl, ?_⟩
  rw [decide_eq_false (by omega)]
  refine L2.iteF ?_
  walk_at "w"
  refine ⟨j, _, rfl, hj, rfl, ?_⟩
  walk_at "w"
  refine ⟨j, i, n, f, rs, us, s, o, rfl, hj, ra, ho, _, rfl, L2.iteF ?_⟩
  walk_at "w"
  refine ⟨_, CF, _, _, rfl, hj, T.clF, T.fars, rfl, ?_⟩
  walk_at "w"
  refine ⟨_, CF, _, _, rfl, hj, T.clF, T.roads, rfl, ?_⟩
  refine ⟨i, _, rfl, ra.o, rfl, ?_⟩
  walk_at "w"
  refine ⟨i, n, rs, us, s, h, rfl, ra, fun ns hp => ?_⟩
  have hlt : ∀ t ∈ ns, t.h < n := fun t ht => near_lt ra.g t (hp.mem_iff.mp ht)
  walk_at "w"
  refine ⟨n, f, ns, o, rfl, ho, hlt, by rw [hp.length_eq]; exact Nat.le_trans (near_len rs us) ra.g.len, ?_⟩
  walk_at "w"
  refine ⟨[.int 24, .none], rfl, by simp, ?_⟩
  have e1 : ns.map (stepD f o) = (ns.map fun t => ((t.d : Int) + f t.h o, t.h)).map wayD := by rw [List.map_map]; rfl
  rw [e1]
  refine ⟨_, rfl, ways_alike _, ways_plain _, by have := ways_depth (ns.map fun t => ((t.d : Int) + f t.h o, t.h)); omega, ?_⟩
  have pm : (ns.map fun t => ((t.d : Int) + f t.h o, t.h)).Perm ((near h rs us).map fun t => ((t.d : Int) + f t.h o, t.h)) := hp.map _
  generalize hw : (ns.map fun t => ((t.d : Int) + f t.h o, t.h)) = ways at pm ⊢
  cases ways with
  | nil =>
    show Wg _ _ _ _ (.d (.tuple [.int 24, .none])) _ _ _
    walk_at "w"
    refine o_lt ⟨_, rfl, L2.iteF ?_⟩
    walk_at "w"
    refine .inl (q _ (.inl ⟨?_, rfl⟩))
    exact List.Perm.nil_eq pm |>.symm
  | cons p ps =>
    obtain ⟨z, hz, hm, hv⟩ := min_ways ps p
    show Wg _ _ _ _ (.d (PySem.W.minD (wayD p) (ps.map wayD))) _ _ _
    rw [hv]
    show Wg _ _ _ _ (.d (.tuple [.int z.1, .int z.2])) _ _ _
    walk_at "w"
    refine o_lt ⟨_, rfl, ?_⟩
    have nx : ∀ r, r = (if z.1 < 24 then PyData.int (z.2 : Nat) else .none) → Q (.d r) m := fun r hr => q r (.inr ⟨z, pm.mem_iff.mp hz, fun p hp => hm p (pm.mem_iff.mpr hp), hr⟩)
    by_cases hlt : z.1 < 24
    · rw [decide_eq_true hlt]
      refine L2.iteT ?_
      walk_at "w"
      exact .inl (nx _ (by rw [if_pos hlt]))
    · rw [decide_eq_false hlt]
      refine L2.iteF ?_
      walk_at "w"
      exact .inl (nx _ (by rw [if_neg hlt]))
end

end Wn
set_option Elab.async false
set_option linter.all false
set_option maxRecDepth 100000
set_option maxHeartbeats 2000000
set_option autoImplicit false
set_option pp.maxSteps 600
namespace Wn
open PySem L2
local macro_rules | `(tactic| walk_at "fam") => `(tactic| first | assumption | exact Fam.blk (by assumption) _ | exact Fam.blk (Fam.blk (by assumption) _) _)
local macro_rules | `(tactic| walk_at "at") => `(tactic| with_reducible first | exact At.z | exact At.s At.z | exact At.s (At.s At.z) | exact At.s (At.s (At.s At.z)) | exact At.s (At.s (At.s (At.s At.z))) | exact At.s (At.s (At.s (At.s (At.s At.z)))) | exact At.s (At.s (At.s (At.s (At.s (At.s At.z))))) | exact At.s (At.s (At.s (At.s (At.s (At.s (At.s At.z)))))) | exact At.s (At.s (At.s (At.s (At.s (At.s (At.s (At.s At.z))))))) | exact At.s (At.s (At.s (At.s (At.s (At.s (At.s (At.s (At.s At.z)))))))) | exact At.s (At.s (At.s (At.s (At.s (At.s (At.s (At.s (At.s (At.s At.z))))))))) | exact At.s (At.s (At.s (At.s (At.s (At.s (At.s (At.s (At.s (At.s (At.s At.z)))))))))) | exact At.s (At.s (At.s (At.s (At.s (At.s (At.s (At.s (At.s (At.s (At.s (At.s At.z))))))))))) | exact At.s (At.s (At.s (At.s (At.s (At.s (At.s (At.s (At.s (At.s (At.s (At.s (At.s At.z)))))))))))) | exact At.s (At.s (At.s (At.s (At.s (At.s (At.s (At.s (At.s (At.s (At.s (At.s (At.s (At.s At.z))))))))))))) | exact At.s (At.s (At.s (At.s (At.s (At.s (At.s (At.s (At.s (At.s (At.s (At.s (At.s (At.s (At.s At.z)))))))))))))) | exact At.s (At.s (At.s (At.s (At.s (At.s (At.s (At.s (At.s (At.s (At.s (At.s (At.s (At.s (At.s (At.s At.z))))))))))))))) | exact At.s (At.s (At.s (At.s (At.s (At.s (At.s (At.s (At.s (At.s (At.s (At.s (At.s (At.s (At.s (At.s (At.s At.z)))))))))))))))) | exact At.s (At.s (At.s (At.s (At.s (At.s (At.s (At.s (At.s (At.s (At.s (At.s (At.s (At.s (At.s (At.s (At.s (At.s At.z))))))))))))))))) | exact At.s (At.s (At.s (At.s (At.s (At.s (At.s (At.s (At.s (At.s (At.s (At.s (At.s (At.s (At.s (At.s (At.s (At.s (At.s At.z)))))))))))))))))) | exact At.s (At.s (At.s (At.s (At.s (At.s (At.s (At.s (At.s (At.s (At.s (At.s (At.s (At.s (At.s (At.s (At.s (At.s (At.s (At.s At.z))))))))))))))))))) | exact At.s (At.s (At.s (At.s (At.s (At.s (At.s (At.s (At.s (At.s (At.s (At.s (At.s (At.s (At.s (At.s (At.s (At.s (At.s (At.s (At.s At.z)))))))))))))))))))))
local macro_rules | `(tactic| walk_at "call") => `(tactic| first
  | ((with_reducible show We _ _ (.Call (.Name "len" _) _ _ _) _ _ _); refine b_len (by walk_at "fam") (by assumption) ?_)
  | ((with_reducible show We _ _ (.Call (.Name "isinstance" _) [_, .Name "int" _] _ _) _ _ _); refine b_isiInt (by walk_at "fam") (by assumption) ?_)
  | ((with_reducible show We _ _ (.Call (.Name "isinstance" _) [_, .Name "bool" _] _ _) _ _ _); refine b_isiBool (by walk_at "fam") (by assumption) ?_)
  | ((with_reducible show We _ _ (.Call (.Name "isinstance" _) [_, .Name "tuple" _] _ _) _ _ _); refine b_isiTup (by walk_at "fam") (by assumption) ?_)
  | ((with_reducible show We _ _ (.Call (.Name "abs" _) _ _ _) _ _ _); refine b_abs (by walk_at "fam") (by assumption) ?_)
  | ((with_reducible show We _ _ (.Call (.Name "int" _) _ _ _) _ _ _); refine b_intB (by walk_at "fam") (by assumption) ?_)
  | ((with_reducible show We _ _ (.Call (.Name "tuple" _) _ _ _) _ _ _); refine b_tup (by walk_at "fam") (by assumption) ?_)
  | ((with_reducible show We _ _ (.Call (.Name "list" _) [.Call (.Name "range" _) _ _ _] _ _) _ _ _); refine we_listRg (by walk_at "fam") (Bt.list (by assumption)) (Bt.range (by assumption)) ?_)
  | ((with_reducible show We _ _ (.Call (.Name "list" _) _ _ _) _ _ _); refine b_lst (by walk_at "fam") (by assumption) ?_)
  | ((with_reducible show We _ _ (.Call (.Name "min" _) [_, _] _ _) _ _ _); refine b_min2 (by walk_at "fam") (by assumption) ?_)
  | ((with_reducible show We _ _ (.Call (.Name "min" _) [_] [_] _) _ _ _); refine we_minDD (by walk_at "fam") (Bt.min (by assumption)) ?_)
  | ((with_reducible show We _ _ (.Call (.Name "min" _) [_] [] _) _ _ _); refine b_min1 (by walk_at "fam") (by assumption) ?_)
  | ((with_reducible show We _ _ (.Call (.Name "sorted" _) _ _ _) _ _ _); refine b_sorted (by walk_at "fam") (by assumption) ?_)
  | ((with_reducible show We _ _ (.Call (.Attribute _ "append" _) _ _ _) _ _ _); refine we_append (by walk_at "fam") ?_)
  | ((with_reducible show We _ _ (.Call (.Name _ _) _ _ _) _ _ _); refine we_call (by walk_at "fam") (by assumption) (by decide) ?_)
  | ((with_reducible show We _ _ (.Call (.Name _ _) _ _ _) _ _ _); refine we_make (by walk_at "fam") (by assumption) (by decide) ?_)
  | ((with_reducible show We _ _ (.Call (.Attribute _ _ _) (_ :: _) _ _) _ _ _); refine we_meth (by walk_at "fam") (by assumption) (by decide) ?_)
  | ((with_reducible show We _ _ (.Call (.Attribute _ _ _) [] _ _) _ _ _); refine we_meth0 (by walk_at "fam") (by assumption) (by decide) ?_))
local macro_rules | `(tactic| walk_at "e") => `(tactic| first
  | ((with_reducible show We _ _ (.Name _ _) _ _ _); first | refine we_varA (by walk_at "fam") (by walk_at "at") (by rfl) ?_ | refine we_gint (by walk_at "fam") (by assumption) ?_)
  | ((with_reducible show We _ _ (.Constant _ _ _) _ _ _); first | refine we_int ?_ | refine we_bl ?_ | refine we_non ?_ | refine we_str ?_)
  | ((with_reducible show We _ _ (.BinOp _ _ _ _) _ _ _); refine we_bin ?_)
  | ((with_reducible show We _ _ (.Compare _ [_] _ _) _ _ _); refine we_cmp ?_)
  | ((with_reducible show We _ _ (.Compare _ [_, _] _ _) _ _ _); refine we_chain ?_)
  | ((with_reducible show We _ _ (.BoolOp _ [_] _) _ _ _); refine we_one ?_)
  | ((with_reducible show We _ _ (.BoolOp .And _ _) _ _ _); refine we_and ?_)
  | ((with_reducible show We _ _ (.BoolOp .Or _ _) _ _ _); refine we_or ?_)
  | ((with_reducible show We _ _ (.UnaryOp .Not _ _) _ _ _); refine we_not ?_)
  | ((with_reducible show We _ _ (.IfExp _ _ _ _) _ _ _); refine we_ifExp ?_)
  | ((with_reducible show We _ _ (.Tuple _ _ _) _ _ _); refine we_tup ?_)
  | ((with_reducible show We _ _ (.List _ _) _ _ _); refine we_lst ?_)
  | ((with_reducible show We _ _ (.Subscript _ (.Slice _ _ _ _) _) _ _ _); refine we_slice (by walk_at "fam") ?_)
  | ((with_reducible show We _ _ (.Subscript _ _ _) _ _ _); refine we_ix ?_)
  | ((with_reducible show We _ _ (.Attribute _ _ _) _ _ _); refine we_fld (by walk_at "fam") ?_)
  | walk_at "call"
  | ((with_reducible show Wo _ _ none _ _ _); refine wo_none ?_)
  | ((with_reducible show Wo _ _ (some _) _ _ _); refine wo_some ?_)
  | ((with_reducible show Wr _ _ [] _ _ _); refine wr_nil ?_)
  | ((with_reducible show Wr _ _ (_ :: _) _ _ _); refine wr_cons ?_)
  | ((with_reducible show Wt _ _ (.UnaryOp .Not _ _) _ _ _); refine wt_not ?_)
  | ((with_reducible show Wt _ _ (.BoolOp .And _ _) _ _ _); refine wt_w (ww_and ?_))
  | ((with_reducible show Wt _ _ (.BoolOp .Or _ _) _ _ _); refine wt_w (ww_or ?_))
  | ((with_reducible show Wt _ _ (.Compare _ [_] _ _) _ _ _); refine wt_cmp ?_)
  | ((with_reducible show Wt _ _ _ _ _ _); refine wt_val ?_)
  | ((with_reducible show Ww _ _ (.BoolOp .And [_] _) _ _ _); refine ww_and1 ?_)
  | ((with_reducible show Ww _ _ (.BoolOp .Or [_] _) _ _ _); refine ww_or1 ?_)
  | ((with_reducible show Ww _ _ (.BoolOp .And _ _) _ _ _); refine ww_and ?_)
  | ((with_reducible show Ww _ _ (.BoolOp .Or _ _) _ _ _); refine ww_or ?_)
  | ((with_reducible show Ws _ _ [] _ _ _); refine ws_nil ?_)
  | ((with_reducible show Ws _ _ (_ :: _) _ _ _); refine ws_cons ?_)
  | ((with_reducible show Ws1 _ _ (.Return (some _) _) _ _ _); refine ws_ret ?_)
  | ((with_reducible show Ws1 _ _ (.If _ _ _ _) _ _ _); refine ws_if ?_)
  | ((with_reducible show Ws1 _ _ (.Expr _ _) _ _ _); refine ws_expr ?_)
  | ((with_reducible show Ws1 _ _ (.Assign [.Name _ _] (.ListComp _ _ _ _) _) _ _ _); fail)
  | ((with_reducible show Ws1 _ _ (.Assign [.Name _ _] _ _) _ _ _); refine ws_setA (by walk_at "fam") (by walk_at "at") ?_)
  | ((with_reducible show Ws1 _ _ (.Assign [.Attribute _ _ _] _ _) _ _ _); refine ws_fld (by walk_at "fam") ?_)
  | ((with_reducible show Ws1 _ _ (.Assign [_] _ _) _ _ _); refine ws_asg ?_)
  | ((with_reducible show Wts _ _ [] _ _ _); refine wts_nil ?_)
  | ((with_reducible show Wts _ _ [_] _ _ _); refine wts_one ?_)
  | ((with_reducible show Wg _ _ _ (.Name _ _) _ _ _ _); refine wg_nameA (by walk_at "fam") (by walk_at "at") ?_)
  | ((with_reducible show Wg _ _ _ (.Tuple _ _ _) _ _ _ _); refine wg_tup (by walk_at "fam") ?_)
  | ((with_reducible show Wg _ _ _ (.Subscript _ _ _) _ _ _ _); refine wg_sub ?_)
  | refine wgs_nil ?_ | refine wgs_cons ?_)
local macro_rules | `(tactic| walk_at "w") => `(tactic| repeat walk_at "e")
abbrev stDeck : Stmt := topS 28
abbrev stDraw : Stmt := topS 29
abbrev stRoads : Stmt := topS 30
theorem scDeck : FnScope ["_law_script", "_law_cell"] ["_law_script"] (defScope stDeck) := ⟨rfl, rfl, rfl, by decide +kernel, rfl, by decide +kernel, by decide +kernel⟩
theorem scDraw : FnScope ["_law_deck_here", "_law_many", "_law_cell", "_law_place"] ["_law_deck_here", "_law_many"] (defScope stDraw) := ⟨rfl, rfl, rfl, by decide +kernel, rfl, by decide +kernel, by decide +kernel⟩
theorem scRoads : FnScope ["_law_deck_here", "_law_houses", "_law_found", "_law_dense", "_law_a", "_law_b", "_law_often", "_law_size"] ["_law_deck_here", "_law_houses"] (defScope stRoads) := ⟨rfl, rfl, rfl, by decide +kernel, rfl, by decide +kernel, by decide +kernel⟩
/-! the deck: the cells at 0, the pair at 1 -/
def cellsM (cs : List Int) : List MV := cs.map fun i => .d (.int i)
def dk (n : Nat) (cs : List Int) : Mm := [.lst (cellsM cs), .lst [.r 0, .d (.int n)]]
structure Dk (n : Nat) (cs : List Int) : Prop where
  n : n ≤ 1000000
  len : cs.length ≤ 63
  pos : ∀ c ∈ cs, 0 ≤ c
def sDeck (xs : List MV) (m : Mm) (Q : QV) : Prop := ∃ ns : List Int, xs = [.s ns] ∧ m = [] ∧ ∀ cs, Dk 0 cs → Q (.r 1) (dk 0 cs)
def sDraw (xs : List MV) (m : Mm) (Q : QV) : Prop := ∃ (n : Nat) (cs : List Int) (rest : Mm) (many : Nat), xs = [.r 1, .d (.int many)] ∧ m = dk n cs ++ rest ∧ Dk (n + 1) cs ∧ 1 ≤ many ∧ many < 1000000 ∧ ∀ (v : Nat) (cs' : List Int), v < many → Dk (n + 1) cs' → Q (.d (.int v)) (dk (n + 1) cs' ++ rest)
section
variable {P : Program} {w : World} {K : PySem.W.Frag} {mg : Str → Option Value} {base : Heap} {f : Addr} {fd : FuncData} {CR CF : Addr}
theorem abs_nn (i : Int) : 0 ≤ (if i < 0 then -i else i) := by split <;> omega
theorem ok_deck (F : Fun K "_law_deck" "_law_deck" stDeck f fd) (B : Bt mg) : FnOk P w K mg base CX0 1 f fd ["_law_script"] (spM K sDeck) := by
  refine fn_m F scDeck (fun xs m Q h => by obtain ⟨_, rfl, _⟩ := h; rfl) fun X Fm xs m Q ⟨ns, ex, em, q⟩ hs => ?_
  subst ex em
  refine ws_cons (ws_ret (we_lst (wr_cons (we_lc Fm [("_law_cell", 1)] (wi_l Fm (we_sliceS Fm ?_))))))
  walk_at "w"
  refine ⟨_, rfl, ns, rfl, .inl ⟨(cutM ns none (some 63)).map PyData.int, by rw [List.map_map]; rfl, _, rfl, rfl, ?_, fun i acc m' => ([] : Mm) = m' ∧ acc = (((cutM ns none (some 63)).take i).map fun i => PyData.int (if i < 0 then -i else i)).map .d, ⟨rfl, by simp⟩, fun _ _ _ _ hI => by rw [← hI.1]; rfl, ?_, ?_⟩⟩
  · have : (cutM ns none (some 63)).length ≤ 63 := by
      unfold cutM
      rw [List.length_take]
      have e1 : HT.sIx ns.length 0 none = 0 := rfl
      have e2 : HT.sIx ns.length ns.length (some 63) ≤ 63 := by
        unfold HT.sIx
        first | (simp; omega) | (split <;> omega) | omega
      omega
    simp; omega
  · rintro i x acc m' hx ⟨rfl, rfl⟩
    rw [List.map_map] at hx
    obtain ⟨c, hc, rfl⟩ := map_get hx
    show Wg _ _ _ _ (.d (.int c)) _ _ _
    walk_at "w"
    refine L2.iteT ?_
    walk_at "w"
    refine ⟨c, rfl, rfl, ?_⟩
    rw [take_one hc, List.map_append, List.map_append]
    rfl
  · rintro acc m' ⟨rfl, rfl⟩
    refine .inr ?_
    walk_at "w"
    refine ⟨by show 2 ≤ 1000; decide, .inr (.inl ?_)⟩
    have := q ((cutM ns none (some 63)).map fun i => if i < 0 then -i else i) ⟨by decide, ?_, ?_⟩
    · simp only [List.length_map, List.take_length] at this ⊢
      unfold dk cellsM at this
      simpa [List.map_map, Function.comp_def] using this
    · rw [List.length_map]
      unfold cutM
      rw [List.length_take]
      have e1 : HT.sIx ns.length 0 none = 0 := rfl
      have e2 : HT.sIx ns.length ns.length (some 63) ≤ 63 := by
        unfold HT.sIx
        first | (simp; omega) | (split <;> omega) | omega
      omega
    · intro c hc
      obtain ⟨i, _, rfl⟩ := List.mem_map.mp hc
      exact abs_nn i
theorem cells_at {cs : List Int} {k : Nat} {c : Int} (h : cs[k]? = some c) : (cellsM cs)[k]? = some (.d (.int c)) := by unfold cellsM; rw [List.getElem?_map, h]; rfl
theorem ok_draw (F : Fun K "_law_draw" "_law_draw" stDraw f fd) (B : Bt mg) : FnOk P w K mg base CX0 1 f fd ["_law_deck_here", "_law_many"] (spM K sDraw) := by
  refine fn_m F scDraw (fun xs m Q h => by obtain ⟨_, _, _, _, rfl, _⟩ := h; rfl) fun X Fm xs m Q ⟨n, cs, rest, many, ex, em, dkk, m1, m2, q⟩ hs => ?_
  subst ex em
  have nn := dkk.n
  have lim := dkk.len
  have fin : ∀ c : Int, 0 ≤ c → ((c % 2147483587 + 7919 * ((n : Int) + 1) + 1) ^ (5 : Int).toNat % 2147483647 % (many : Int)) = (((c % 2147483587 + 7919 * ((n : Int) + 1) + 1) ^ (5 : Int).toNat % 2147483647 % (many : Int)).toNat : Nat) ∧ ((c % 2147483587 + 7919 * ((n : Int) + 1) + 1) ^ (5 : Int).toNat % 2147483647 % (many : Int)).toNat < many := fun c _ => by
    have h1 := Int.emod_nonneg ((c % 2147483587 + 7919 * ((n : Int) + 1) + 1) ^ (5 : Int).toNat % 2147483647) (show (many : Int) ≠ 0 by omega)
    have h2 := Int.emod_lt_of_pos ((c % 2147483587 + 7919 * ((n : Int) + 1) + 1) ^ (5 : Int).toNat % 2147483647) (show (0 : Int) < (many : Int) by omega)
    generalize (c % 2147483587 + 7919 * ((n : Int) + 1) + 1) ^ (5 : Int).toNat % 2147483647 % (many : Int) = z at h1 h2 ⊢
    omega
  have pw : ∀ c : Int, 0 ≤ c → CPow (c % 2147483587 + 7919 * ((n : Int) + 1) + 1) 5 := fun c _ => by
    have h1 := Int.emod_nonneg c (show (2147483587 : Int) ≠ 0 by decide)
    have h2 := Int.emod_lt_of_pos c (show (0 : Int) < 2147483587 by decide)
    refine ⟨by decide, by decide, ?_⟩
    have : (2 : Nat) ^ 64 = 18446744073709551616 := by decide
    omega
  refine ws_cons ?_
  walk_at "w"
  refine ix_w Fm (y := .d (.int n)) (xs := [.r 0, .d (.int n)]) rfl rfl ?_
  walk_at "w"
  refine o_add ?_
  walk_at "w"
  refine setw_list (i := 1) (xs := [.r 0, .d (.int n)]) (k := 1) rfl rfl ?_
  show Ws _ _ _ _ ((.lst (cellsM cs) : MO) :: (.lst [.r 0, .d (.int ((n : Int) + 1))]) :: rest) _
  walk_at "w"
  refine ix_w Fm (y := .r 0) (xs := [.r 0, .d (.int ((n : Int) + 1))]) rfl rfl ?_
  refine ⟨cellsM cs, rfl, ?_⟩
  walk_at "w"
  refine o_gt ⟨_, rfl, ?_⟩
  have lc : (cellsM cs).length = cs.length := by unfold cellsM; rw [List.length_map]
  rw [lc]
  by_cases h0 : 0 < cs.length
  · rw [decide_eq_true (show (0 : Int) < (cs.length : Nat) by omega)]
    refine L2.iteT ?_
    walk_at "w"
    refine ix_w Fm (y := .d (.int ((n : Int) + 1))) (xs := [.r 0, .d (.int ((n : Int) + 1))]) rfl rfl ?_
    walk_at "w"
    refine ix_w Fm (y := .r 0) (xs := [.r 0, .d (.int ((n : Int) + 1))]) rfl rfl ?_
    refine ⟨cellsM cs, rfl, ?_⟩
    rw [lc]
    refine o_mod (by omega) ?_
    obtain ⟨k, hk, ek⟩ : ∃ k : Nat, k < cs.length ∧ ((n : Int) + 1) % ((cs.length : Nat) : Int) = (k : Int) := by
      have h1 := Int.emod_nonneg ((n : Int) + 1) (show ((cs.length : Nat) : Int) ≠ 0 by omega)
      have h2 := Int.emod_lt_of_pos ((n : Int) + 1) (show (0 : Int) < ((cs.length : Nat) : Int) by omega)
      exact ⟨(((n : Int) + 1) % ((cs.length : Nat) : Int)).toNat, by omega, by omega⟩
    rw [ek]
    obtain ⟨c, hc⟩ : ∃ c, cs[k]? = some c := ⟨cs[k], List.getElem?_eq_getElem hk⟩
    have c0 : 0 ≤ c := dkk.pos c (List.mem_of_getElem? hc)
    walk_at "w"
    refine ix_w Fm (y := .r 0) (xs := [.r 0, .d (.int ((n : Int) + 1))]) rfl rfl ?_
    walk_at "w"
    refine ix_w Fm (y := .d (.int c)) (xs := cellsM cs) rfl (atI_of (cells_at hc) rfl) ?_
    walk_at "w"
    refine o_pow ⟨by decide, by decide, by decide⟩ ?_
    refine o_ge ⟨_, rfl, ?_⟩
    by_cases hb : (10 : Int) ^ (18 : Int).toNat ≤ c
    · rw [decide_eq_true hb]
      refine L2.iteT ?_
      walk_at "w"
      refine o_fdiv ⟨by omega, by omega⟩ ?_
      walk_at "w"
      refine ix_w Fm (y := .r 0) (xs := [.r 0, .d (.int ((n : Int) + 1))]) rfl rfl ?_
      walk_at "w"
      refine setw_list (i := 0) (xs := cellsM cs) (k := k) rfl (ixN_of (by rw [lc]; exact hk) rfl) ?_
      walk_at "w"
      refine o_mod (by omega) (.inl ?_)
      have h1 := Int.emod_nonneg c (show (many : Int) ≠ 0 by omega)
      have h2 := Int.emod_lt_of_pos c (show (0 : Int) < (many : Int) by omega)
      have := q (c % (many : Int)).toNat (cs.set k (c / (many : Int))) (by omega) ⟨dkk.n, by rw [List.length_set]; exact dkk.len, fun z hz => ?_⟩
      · have e1 : ((c % (many : Int)).toNat : Int) = c % (many : Int) := by omega
        rw [e1] at this
        have e2 : (cellsM cs).set k (.d (.int (c / (many : Int)))) = cellsM (cs.set k (c / (many : Int))) := by unfold cellsM; rw [List.map_set]
        show Q _ ((.lst ((cellsM cs).set k (.d (.int (c / (many : Int))))) : MO) :: (.lst [.r 0, .d (.int ((n : Int) + 1))]) :: rest)
        rw [e2]
        exact this
      · rcases List.mem_or_eq_of_mem_set hz with hz | rfl
        · exact dkk.pos z hz
        · exact Int.ediv_nonneg c0 (by omega)
    · rw [decide_eq_false hb]
      refine L2.iteF ?_
      walk_at "w"
      refine o_mod (by decide) ?_
      walk_at "w"
      refine ix_w Fm (y := .d (.int ((n : Int) + 1))) (xs := [.r 0, .d (.int ((n : Int) + 1))]) rfl rfl ?_
      refine o_mul (.inl ⟨by decide, by decide⟩) ?_
      refine o_add ?_
      walk_at "w"
      refine o_add ?_
      walk_at "w"
      refine o_pow (pw c c0) ?_
      walk_at "w"
      refine o_mod (by decide) ?_
      walk_at "w"
      refine o_mod (by omega) (.inl ?_)
      obtain ⟨e1, e2⟩ := fin c c0
      rw [e1]
      exact q _ cs e2 dkk
  · rw [decide_eq_false (show ¬ (0 : Int) < (cs.length : Nat) by omega)]
    refine L2.iteF ?_
    walk_at "w"
    refine o_mod (by decide) ?_
    walk_at "w"
    refine ix_w Fm (y := .d (.int ((n : Int) + 1))) (xs := [.r 0, .d (.int ((n : Int) + 1))]) rfl rfl ?_
    refine o_mul (.inl ⟨by decide, by decide⟩) ?_
    refine o_add ?_
    walk_at "w"
    refine o_add ?_
    walk_at "w"
    refine o_pow (pw 0 (by decide)) ?_
    walk_at "w"
    refine o_mod (by decide) ?_
    walk_at "w"
    refine o_mod (by omega) (.inl ?_)
    obtain ⟨e1, e2⟩ := fin 0 (by decide)
    rw [e1]
    exact q _ cs e2 dkk
end

end Wn
set_option Elab.async false
set_option linter.all false
set_option maxRecDepth 100000
set_option maxHeartbeats 2000000
set_option autoImplicit false
set_option pp.maxSteps 600
namespace Wn
open PySem L2
local macro_rules | `(tactic| walk_at "fam") => `(tactic| first | assumption | exact Fam.blk (by assumption) _ | exact Fam.blk (Fam.blk (by assumption) _) _)
local macro_rules | `(tactic| walk_at "at") => `(tactic| with_reducible first | exact At.z | exact At.s At.z | exact At.s (At.s At.z) | exact At.s (At.s (At.s At.z)) | exact At.s (At.s (At.s (At.s At.z))) | exact At.s (At.s (At.s (At.s (At.s At.z)))) | exact At.s (At.s (At.s (At.s (At.s (At.s At.z))))) | exact At.s (At.s (At.s (At.s (At.s (At.s (At.s At.z)))))) | exact At.s (At.s (At.s (At.s (At.s (At.s (At.s (At.s At.z))))))) | exact At.s (At.s (At.s (At.s (At.s (At.s (At.s (At.s (At.s At.z)))))))) | exact At.s (At.s (At.s (At.s (At.s (At.s (At.s (At.s (At.s (At.s At.z))))))))) | exact At.s (At.s (At.s (At.s (At.s (At.s (At.s (At.s (At.s (At.s (At.s At.z)))))))))) | exact At.s (At.s (At.s (At.s (At.s (At.s (At.s (At.s (At.s (At.s (At.s (At.s At.z))))))))))) | exact At.s (At.s (At.s (At.s (At.s (At.s (At.s (At.s (At.s (At.s (At.s (At.s (At.s At.z)))))))))))) | exact At.s (At.s (At.s (At.s (At.s (At.s (At.s (At.s (At.s (At.s (At.s (At.s (At.s (At.s At.z))))))))))))) | exact At.s (At.s (At.s (At.s (At.s (At.s (At.s (At.s (At.s (At.s (At.s (At.s (At.s (At.s (At.s At.z)))))))))))))) | exact At.s (At.s (At.s (At.s (At.s (At.s (At.s (At.s (At.s (At.s (At.s (At.s (At.s (At.s (At.s (At.s At.z))))))))))))))) | exact At.s (At.s (At.s (At.s (At.s (At.s (At.s (At.s (At.s (At.s (At.s (At.s (At.s (At.s (At.s (At.s (At.s At.z)))))))))))))))) | exact At.s (At.s (At.s (At.s (At.s (At.s (At.s (At.s (At.s (At.s (At.s (At.s (At.s (At.s (At.s (At.s (At.s (At.s At.z))))))))))))))))) | exact At.s (At.s (At.s (At.s (At.s (At.s (At.s (At.s (At.s (At.s (At.s (At.s (At.s (At.s (At.s (At.s (At.s (At.s (At.s At.z)))))))))))))))))) | exact At.s (At.s (At.s (At.s (At.s (At.s (At.s (At.s (At.s (At.s (At.s (At.s (At.s (At.s (At.s (At.s (At.s (At.s (At.s (At.s At.z))))))))))))))))))) | exact At.s (At.s (At.s (At.s (At.s (At.s (At.s (At.s (At.s (At.s (At.s (At.s (At.s (At.s (At.s (At.s (At.s (At.s (At.s (At.s (At.s At.z)))))))))))))))))))))
local macro_rules | `(tactic| walk_at "call") => `(tactic| first
  | ((with_reducible show We _ _ (.Call (.Name "len" _) _ _ _) _ _ _); refine b_len (by walk_at "fam") (by assumption) ?_)
  | ((with_reducible show We _ _ (.Call (.Name "isinstance" _) [_, .Name "int" _] _ _) _ _ _); refine b_isiInt (by walk_at "fam") (by assumption) ?_)
  | ((with_reducible show We _ _ (.Call (.Name "isinstance" _) [_, .Name "bool" _] _ _) _ _ _); refine b_isiBool (by walk_at "fam") (by assumption) ?_)
  | ((with_reducible show We _ _ (.Call (.Name "isinstance" _) [_, .Name "tuple" _] _ _) _ _ _); refine b_isiTup (by walk_at "fam") (by assumption) ?_)
  | ((with_reducible show We _ _ (.Call (.Name "abs" _) _ _ _) _ _ _); refine b_abs (by walk_at "fam") (by assumption) ?_)
  | ((with_reducible show We _ _ (.Call (.Name "int" _) _ _ _) _ _ _); refine b_intB (by walk_at "fam") (by assumption) ?_)
  | ((with_reducible show We _ _ (.Call (.Name "tuple" _) _ _ _) _ _ _); refine b_tup (by walk_at "fam") (by assumption) ?_)
  | ((with_reducible show We _ _ (.Call (.Name "list" _) [.Call (.Name "range" _) _ _ _] _ _) _ _ _); refine we_listRg (by walk_at "fam") (Bt.list (by assumption)) (Bt.range (by assumption)) ?_)
  | ((with_reducible show We _ _ (.Call (.Name "list" _) _ _ _) _ _ _); refine b_lst (by walk_at "fam") (by assumption) ?_)
  | ((with_reducible show We _ _ (.Call (.Name "min" _) [_, _] _ _) _ _ _); refine b_min2 (by walk_at "fam") (by assumption) ?_)
  | ((with_reducible show We _ _ (.Call (.Name "min" _) [_] [_] _) _ _ _); refine we_minDD (by walk_at "fam") (Bt.min (by assumption)) ?_)
  | ((with_reducible show We _ _ (.Call (.Name "min" _) [_] [] _) _ _ _); refine b_min1 (by walk_at "fam") (by assumption) ?_)
  | ((with_reducible show We _ _ (.Call (.Name "sorted" _) _ _ _) _ _ _); refine b_sorted (by walk_at "fam") (by assumption) ?_)
  | ((with_reducible show We _ _ (.Call (.Attribute _ "append" _) _ _ _) _ _ _); refine we_append (by walk_at "fam") ?_)
  | ((with_reducible show We _ _ (.Call (.Name _ _) _ _ _) _ _ _); refine we_call (by walk_at "fam") (by assumption) (by decide) ?_)
  | ((with_reducible show We _ _ (.Call (.Name _ _) _ _ _) _ _ _); refine we_make (by walk_at "fam") (by assumption) (by decide) ?_)
  | ((with_reducible show We _ _ (.Call (.Attribute _ _ _) (_ :: _) _ _) _ _ _); refine we_meth (by walk_at "fam") (by assumption) (by decide) ?_)
  | ((with_reducible show We _ _ (.Call (.Attribute _ _ _) [] _ _) _ _ _); refine we_meth0 (by walk_at "fam") (by assumption) (by decide) ?_))
local macro_rules | `(tactic| walk_at "e") => `(tactic| first
  | ((with_reducible show We _ _ (.Name _ _) _ _ _); first | refine we_varA (by walk_at "fam") (by walk_at "at") (by rfl) ?_ | refine we_gint (by walk_at "fam") (by assumption) ?_)
  | ((with_reducible show We _ _ (.Constant _ _ _) _ _ _); first | refine we_int ?_ | refine we_bl ?_ | refine we_non ?_ | refine we_str ?_)
  | ((with_reducible show We _ _ (.BinOp _ _ _ _) _ _ _); refine we_bin ?_)
  | ((with_reducible show We _ _ (.Compare _ [_] _ _) _ _ _); refine we_cmp ?_)
  | ((with_reducible show We _ _ (.Compare _ [_, _] _ _) _ _ _); refine we_chain ?_)
  | ((with_reducible show We _ _ (.BoolOp _ [_] _) _ _ _); refine we_one ?_)
  | ((with_reducible show We _ _ (.BoolOp .And _ _) _ _ _); refine we_and ?_)
  | ((with_reducible show We _ _ (.BoolOp .Or _ _) _ _ _); refine we_or ?_)
  | ((with_reducible show We _ _ (.UnaryOp .Not _ _) _ _ _); refine we_not ?_)
  | ((with_reducible show We _ _ (.IfExp _ _ _ _) _ _ _); refine we_ifExp ?_)
  | ((with_reducible show We _ _ (.Tuple _ _ _) _ _ _); refine we_tup ?_)
  | ((with_reducible show We _ _ (.List _ _) _ _ _); refine we_lst ?_)
  | ((with_reducible show We _ _ (.Subscript _ (.Slice _ _ _ _) _) _ _ _); refine we_slice (by walk_at "fam") ?_)
  | ((with_reducible show We _ _ (.Subscript _ _ _) _ _ _); refine we_ix ?_)
  | ((with_reducible show We _ _ (.Attribute _ _ _) _ _ _); refine we_fld (by walk_at "fam") ?_)
  | walk_at "call"
  | ((with_reducible show Wo _ _ none _ _ _); refine wo_none ?_)
  | ((with_reducible show Wo _ _ (some _) _ _ _); refine wo_some ?_)
  | ((with_reducible show Wr _ _ [] _ _ _); refine wr_nil ?_)
  | ((with_reducible show Wr _ _ (_ :: _) _ _ _); refine wr_cons ?_)
  | ((with_reducible show Wt _ _ (.UnaryOp .Not _ _) _ _ _); refine wt_not ?_)
  | ((with_reducible show Wt _ _ (.BoolOp .And _ _) _ _ _); refine wt_w (ww_and ?_))
  | ((with_reducible show Wt _ _ (.BoolOp .Or _ _) _ _ _); refine wt_w (ww_or ?_))
  | ((with_reducible show Wt _ _ (.Compare _ [_] _ _) _ _ _); refine wt_cmp ?_)
  | ((with_reducible show Wt _ _ _ _ _ _); refine wt_val ?_)
  | ((with_reducible show Ww _ _ (.BoolOp .And [_] _) _ _ _); refine ww_and1 ?_)
  | ((with_reducible show Ww _ _ (.BoolOp .Or [_] _) _ _ _); refine ww_or1 ?_)
  | ((with_reducible show Ww _ _ (.BoolOp .And _ _) _ _ _); refine ww_and ?_)
  | ((with_reducible show Ww _ _ (.BoolOp .Or _ _) _ _ _); refine ww_or ?_)
  | ((with_reducible show Ws _ _ [] _ _ _); refine ws_nil ?_)
  | ((with_reducible show Ws _ _ (_ :: _) _ _ _); refine ws_cons ?_)
  | ((with_reducible show Ws1 _ _ (.Return (some _) _) _ _ _); refine ws_ret ?_)
  | ((with_reducible show Ws1 _ _ (.If _ _ _ _) _ _ _); refine ws_if ?_)
  | ((with_reducible show Ws1 _ _ (.Expr _ _) _ _ _); refine ws_expr ?_)
  | ((with_reducible show Ws1 _ _ (.Assign [.Name _ _] (.ListComp _ _ _ _) _) _ _ _); fail)
  | ((with_reducible show Ws1 _ _ (.Assign [.Name _ _] _ _) _ _ _); refine ws_setA (by walk_at "fam") (by walk_at "at") ?_)
  | ((with_reducible show Ws1 _ _ (.Assign [.Attribute _ _ _] _ _) _ _ _); refine ws_fld (by walk_at "fam") ?_)
  | ((with_reducible show Ws1 _ _ (.Assign [_] _ _) _ _ _); refine ws_asg ?_)
  | ((with_reducible show Wts _ _ [] _ _ _); refine wts_nil ?_)
  | ((with_reducible show Wts _ _ [_] _ _ _); refine wts_one ?_)
  | ((with_reducible show Wg _ _ _ (.Name _ _) _ _ _ _); refine wg_nameA (by walk_at "fam") (by walk_at "at") ?_)
  | ((with_reducible show Wg _ _ _ (.Tuple _ _ _) _ _ _ _); refine wg_tup (by walk_at "fam") ?_)
  | ((with_reducible show Wg _ _ _ (.Subscript _ _ _) _ _ _ _); refine wg_sub ?_)
  | refine wgs_nil ?_ | refine wgs_cons ?_)
local macro_rules | `(tactic| walk_at "w") => `(tactic| repeat walk_at "e")
section
variable {ι : Type} {X : ι → Cx} {K : PySem.W.Frag} {ρ : Ro} {m : Mm} {D : Ed} {st : Stmt} {rest : List Stmt}
/-- a join behind a statement -/
theorem ws_cut (R : Ro → Mm → Prop) (h : Ws1 X K st ρ m { D with nx := R }) (h2 : ∀ ρ' m', R ρ' m' → Ws X K rest ρ' m' D) : Ws X K (st :: rest) ρ m D := fun π G σ H D' hk sk wd =>
  ⟨_, fun j => pss_cons (tsOf X st j) (tssOf X rest j), h π G σ H _ hk sk ⟨fun σ' ρ' π' G' H' m' e hk' sk' q => h2 ρ' m' q π' G' σ' H' D' hk' sk' (wd.xt e), wd.rt, wd.bk, wd.ct⟩⟩
end
theorem dk_last (k : Nat) (cs : List Int) (rest : Mm) (o : MO) : (dk k cs ++ (rest ++ [o]))[2 + rest.length]? = some o := by
  rw [← List.append_assoc]
  have e : 2 + rest.length = (dk k cs ++ rest).length := by simp [dk]; omega
  rw [e]
  exact last_get _ _
theorem dk_lset (k : Nat) (cs : List Int) (rest : Mm) (o o' : MO) : (dk k cs ++ (rest ++ [o])).set (2 + rest.length) o' = dk k cs ++ (rest ++ [o']) := by
  rw [← List.append_assoc, ← List.append_assoc]
  have e : 2 + rest.length = (dk k cs ++ rest).length := by simp [dk]; omega
  rw [e]
  exact last_set _ _ _
theorem dk_len (k : Nat) (cs : List Int) (rest : Mm) : (dk k cs ++ rest).length = 2 + rest.length := by simp [dk]; omega
theorem dk_ret {k k' : Nat} {cs cs' : List Int} {rest t : Mm} {Q : QV} {x : MV} (hs : Scd (dk k cs ++ rest)) (hx : x.sc (dk k cs ++ rest).length) (q : Q x (dk k' cs' ++ rest)) : Ret (dk k cs ++ rest).length Q x (dk k' cs' ++ (rest ++ t)) := by
  have e : (dk k' cs' ++ (rest ++ t)).take (dk k cs ++ rest).length = dk k' cs' ++ rest := by
    rw [← List.append_assoc]
    have : (dk k cs ++ rest).length = (dk k' cs' ++ rest).length := by simp [dk]
    rw [this]
    exact last_take _ _
  refine .inr (.inl ⟨?_, hx, by rw [e]; exact q⟩)
  rw [e]
  intro o ho
  rcases List.mem_append.mp ho with ho | ho
  · unfold dk at ho
    rcases List.mem_cons.mp ho with rfl | ho
    · intro z hz
      unfold cellsM at hz
      obtain ⟨i, _, rfl⟩ := List.mem_map.mp hz
      trivial
    · rcases List.mem_cons.mp ho with rfl | ho
      · intro z hz
        rcases List.mem_cons.mp hz with rfl | hz
        · show 0 < (dk k cs ++ rest).length
          rw [dk_len]; omega
        · rcases List.mem_cons.mp hz with rfl | hz
          · trivial
          · cases hz
      · cases ho
  · exact hs o (List.mem_append_right _ ho)
theorem Dk.up {k k' : Nat} {cs : List Int} (h : Dk k cs) (hk : k' ≤ 1000000) : Dk k' cs := ⟨hk, h.len, h.pos⟩
def sRoads (xs : List MV) (m : Mm) (Q : QV) : Prop := ∃ (k : Nat) (cs : List Int) (rest : Mm) (n : Nat), xs = [.r 1, .d (.int n)] ∧ m = dk k cs ++ rest ∧ Dk k cs ∧ k ≤ 1000 ∧ 1 ≤ n ∧ n ≤ 8 ∧ ∀ (rs : List Row) (k' : Nat) (cs' : List Int), Gr n rs → Dk k' cs' → k' ≤ k + 1000 → Q (.d (.tuple (rowsD rs))) (dk k' cs' ++ rest)
/-- the rows so far, all below (a, b) -/
structure Sofar (n a b : Nat) (rs : List Row) : Prop where
  len : rs.length ≤ 14
  row : ∀ r ∈ rs, RowOk n r
  inc : rs.Pairwise Row.lt
  low : ∀ r ∈ rs, r.a < a ∨ (r.a = a ∧ r.b < b)
theorem Sofar.add {n a b : Nat} {rs : List Row} (h : Sofar n a b rs) (hl : rs.length < 14) {r : Row} (ea : r.a = a) (eb : r.b = b) (ok : RowOk n r) : Sofar n a (b + 1) (rs ++ [r]) := by
  refine ⟨by simp; omega, fun q hq => ?_, ?_, fun q hq => ?_⟩
  · rcases List.mem_append.mp hq with hq | hq
    · exact h.row q hq
    · simp at hq; subst hq; exact ok
  · rw [List.pairwise_append]
    refine ⟨h.inc, List.pairwise_singleton _ _, fun x hx y hy => ?_⟩
    simp at hy; subst hy
    rcases h.low x hx with h1 | h1
    · exact .inl (by omega)
    · exact .inr (by omega)
  · rcases List.mem_append.mp hq with hq | hq
    · rcases h.low q hq with h1 | h1
      · exact .inl h1
      · exact .inr (by omega)
    · simp at hq; subst hq; exact .inr (by omega)
theorem Sofar.skip {n a b : Nat} {rs : List Row} (h : Sofar n a b rs) : Sofar n a (b + 1) rs := ⟨h.len, h.row, h.inc, fun r hr => by rcases h.low r hr with h1 | h1 <;> omega⟩
section
variable {P : Program} {w : World} {K : PySem.W.Frag} {mg : Str → Option Value} {base : Heap} {f : Addr} {fd : FuncData}
theorem ok_roads (F : Fun K "_law_roads" "_law_roads" stRoads f fd) (B : Bt mg) (C1 : Cal P w K mg base 1 "_law_draw" 2 sDraw) : FnOk P w K mg base CX0 2 f fd ["_law_deck_here", "_law_houses"] (spM K sRoads) := by
  refine fn_m F scRoads (fun xs m Q h => by obtain ⟨_, _, _, _, rfl, _⟩ := h; rfl) fun X Fm xs m Q ⟨k, cs, rest, n, ex, em, dk0, k1, n1, n8, q⟩ hs => ?_
  subst ex em
  refine ws_cons ?_
  walk_at "w"
  refine ⟨by decide, .inr ?_⟩
  rw [dk_len, List.append_assoc]
  walk_at "w"
  refine ⟨k, cs, _, 3, rfl, rfl, dk0.up (by omega), by decide, by decide, fun v cs1 hv dk1 => ?_⟩
  refine o_add ?_
  walk_at "w"
  refine ws_for Fm (wi_range1 Fm B.range ?_)
  walk_at "w"
  refine ⟨n, rfl, by omega, by omega, fun a ρ' m' => ∃ (k' : Nat) (cs' : List Int) (rs : List Row) (u1 u2 u3 u4 : Option MV), ρ' = [some (.r 1), some (.d (.int n)), some (.r (2 + rest.length)), some (.d (.int (1 + v))), u1, u2, u3, u4] ∧ m' = dk k' cs' ++ (rest ++ [.lst ((rowsD rs).map .d)]) ∧ k' ≤ k + 1 + 64 * a ∧ Dk k' cs' ∧ Sofar n a 0 rs,
    ⟨k + 1, cs1, [], _, _, _, _, rfl, rfl, by omega, dk1, ⟨by simp, by simp, .nil, by simp⟩⟩, fun _ _ _ _ _ => trivial, ?_, ?_⟩
  · rintro a x ρ' m' hx ⟨k', cs', rs, u1, u2, u3, u4, rfl, rfl, hk', dk', sf⟩
    obtain ⟨ha, rfl⟩ := rangeM_some hx
    have han : a < n := by omega
    rw [Int.zero_add]
    walk_at "w"
    refine ws_for Fm (wi_range2 Fm B.range ?_)
    walk_at "w"
    refine o_add ?_
    walk_at "w"
    refine ⟨(a : Int) + 1, n, rfl, by omega, by omega, by omega, by omega, fun j ρ' m' => ∃ (k2 : Nat) (cs2 : List Int) (rs : List Row) (u2 u3 u4 : Option MV), ρ' = [some (.r 1), some (.d (.int n)), some (.r (2 + rest.length)), some (.d (.int (1 + v))), some (.d (.int a)), u2, u3, u4] ∧ m' = dk k2 cs2 ++ (rest ++ [.lst ((rowsD rs).map .d)]) ∧ k2 ≤ k + 1 + 64 * a + 6 * j ∧ Dk k2 cs2 ∧ Sofar n a (a + 1 + j) rs,
      ⟨k', cs', rs, _, _, _, rfl, rfl, by omega, dk', ⟨sf.len, sf.row, sf.inc, fun r hr => by rcases sf.low r hr with h | h <;> omega⟩⟩, fun _ _ _ _ _ => trivial, ?_, ?_⟩
    · rintro j x ρ' m' hx ⟨k2, cs2, rs, u2, u3, u4, rfl, rfl, hk2, dk2, sf⟩
      obtain ⟨hj, rfl⟩ := rangeM_some hx
      have ln : (rangeM ((a : Int) + 1) ((n : Int) - ((a : Int) + 1)).toNat).length = ((n : Int) - ((a : Int) + 1)).toNat := rangeM_len _ _
      have hjb : a + 1 + j < n := by omega
      have eb : (a : Int) + 1 + (j : Nat) = ((a + 1 + j : Nat) : Int) := by omega
      rw [eb]
      walk_at "w"
      refine ⟨k2, cs2, _, 4, rfl, rfl, dk2.up (by omega), by decide, by decide, fun v1 cs3 hv1 dk3 => ?_⟩
      walk_at "w"
      refine o_lt ?_
      refine ws_cut (fun ρ' m' => ∃ (o : Bool) (k4 : Nat) (cs4 : List Int) (u4 : Option MV), ρ' = [some (.r 1), some (.d (.int n)), some (.r (2 + rest.length)), some (.d (.int (1 + v))), some (.d (.int a)), some (.d (.int ((a + 1 + j : Nat) : Int))), some (.d (.bool o)), u4] ∧ m' = dk k4 cs4 ++ (rest ++ [.lst ((rowsD rs).map .d)]) ∧ k4 ≤ k2 + 2 ∧ Dk k4 cs4) ?_ ?_
      · walk_at "w"
        refine o_add ?_
        refine o_eqI Fm ⟨_, rfl, ?_⟩
        by_cases hj0 : ((a + 1 + j : Nat) : Int) = (a : Int) + 1
        · rw [decide_eq_true hj0]
          refine L2.iteT ?_
          walk_at "w"
          refine ⟨k2 + 1, cs3, _, 4, rfl, rfl, dk3.up (by omega), by decide, by decide, fun v2 cs4 hv2 dk4 => ?_⟩
          walk_at "w"
          refine o_gt ⟨_, rfl, ?_⟩
          by_cases h0 : (0 : Int) < (v2 : Int)
          · rw [decide_eq_true h0]
            refine L2.iteT ?_
            walk_at "w"
            exact ⟨true, k2 + 2, cs4, _, rfl, rfl, by omega, dk4⟩
          · rw [decide_eq_false h0]
            refine L2.iteF ?_
            walk_at "w"
            exact ⟨_, k2 + 2, cs4, _, rfl, rfl, by omega, dk4⟩
        · rw [decide_eq_false hj0]
          refine L2.iteF (L2.iteF ?_)
          walk_at "w"
          exact ⟨_, k2 + 1, cs3, _, rfl, rfl, by omega, dk3⟩
      · rintro ρ' m' ⟨o, k4, cs4, u4, rfl, rfl, hk4, dk4⟩
        have lr : ((rowsD rs).map MV.d).length = rs.length := by simp [rowsD]
        walk_at "w"
        refine ⟨_, rfl, ?_⟩
        cases o with
        | false =>
          refine L2.iteF (L2.iteF ?_)
          walk_at "w"
          exact ⟨k4, cs4, rs, _, _, _, rfl, rfl, by omega, dk4, sf.skip⟩
        | true =>
          refine L2.iteT ?_
          walk_at "w"
          refine ⟨_, seqOf_r (dk_last _ _ _ _), ?_⟩
          walk_at "w"
          refine o_lt ⟨_, rfl, ?_⟩
          rw [lr]
          by_cases hl : ((rs.length : Nat) : Int) < 14
          · rw [decide_eq_true hl]
            refine L2.iteT ?_
            walk_at "w"
            refine ⟨k4, cs4, _, 65, rfl, rfl, dk4.up (by omega), by decide, by decide, fun v3 cs5 hv3 dk5 => ?_⟩
            refine o_add ?_
            walk_at "w"
            refine ⟨by show 3 ≤ 1000; decide, .inl ⟨[.int 16, .int 80, .int (16 + (v3 : Int))], rfl, ?_⟩⟩
            walk_at "w"
            refine ⟨k4 + 1, cs5, _, 3, rfl, rfl, dk5.up (by omega), by decide, by decide, fun v4 cs6 hv4 dk6 => ?_⟩
            obtain ⟨sz, hsz, e16, e80⟩ : ∃ sz : Nat, ([PyData.int 16, PyData.int 80, PyData.int (16 + (v3 : Int))].map MV.d)[v4]? = some (.d (.int sz)) ∧ 16 ≤ sz ∧ sz ≤ 80 := by
              rcases v4 with _ | _ | _ | v4
              · exact ⟨16, rfl, by omega, by omega⟩
              · exact ⟨80, rfl, by omega, by omega⟩
              · exact ⟨16 + v3, rfl, by omega, by omega⟩
              · omega
            refine ix_w Fm rfl (atI_of hsz rfl) ?_
            walk_at "w"
            refine ⟨_, _, rfl, dk_last _ _ _ _, ?_⟩
            walk_at "w"
            refine ⟨k4 + 2, cs6, _, 2, rfl, rfl, dk6.up (by omega), by decide, by decide, fun v5 cs7 hv5 dk7 => ?_⟩
            refine o_add ?_
            walk_at "w"
            refine ⟨[.int a, .int ((a + 1 + j : Nat) : Int), .int (1 + (v5 : Int)), .int sz], rfl, by show 4 ≤ 1000; decide, _, dk_last _ _ _ _, by rw [lr]; omega, ?_⟩
            rw [dk_lset]
            walk_at "w"
            refine ⟨k4 + 3, cs7, rs ++ [⟨a, a + 1 + j, 1 + v5, sz⟩], _, _, _, rfl, ?_, by omega, dk7, sf.add (by omega) rfl rfl ⟨by show a < a + 1 + j; omega, hjb, by show 1 ≤ 1 + v5; omega, by show 1 + v5 ≤ 2; omega, e16, e80⟩⟩
            have er : (rowsD (rs ++ [⟨a, a + 1 + j, 1 + v5, sz⟩])).map MV.d = (rowsD rs).map MV.d ++ [.d (.tuple [.int a, .int ((a + 1 + j : Nat) : Int), .int (1 + (v5 : Int)), .int sz])] := by
              unfold rowsD
              rw [List.map_append, List.map_append]
              rfl
            rw [er]
          · rw [decide_eq_false hl]
            refine L2.iteF ?_
            walk_at "w"
            exact ⟨k4, cs4, rs, _, _, _, rfl, rfl, by omega, dk4, sf.skip⟩
    · rintro ρ' m' ⟨k2, cs2, rs, u2, u3, u4, rfl, rfl, hk2, dk2, sf⟩
      rw [rangeM_len] at hk2 sf
      walk_at "w"
      refine ⟨k2, cs2, rs, _, _, _, _, rfl, rfl, by omega, dk2, ⟨sf.len, sf.row, sf.inc, fun r hr => ?_⟩⟩
      have := sf.low r hr
      omega
  · rintro ρ' m' ⟨k', cs', rs, u1, u2, u3, u4, rfl, rfl, hk', dk', sf⟩
    rw [rangeM_len] at hk'
    walk_at "w"
    refine ⟨rowsD rs, seqOf_r (dk_last _ _ _ _), ?_⟩
    have z := dk_ret (x := .d (.tuple (rowsD rs))) (t := [.lst ((rowsD rs).map .d)]) hs trivial (q rs k' cs' ⟨n1, n8, sf.len, sf.row, sf.inc⟩ dk' (by omega))
    rw [dk_len] at z
    exact z
end

end Wn
set_option Elab.async false
set_option linter.all false
set_option maxRecDepth 100000
set_option maxHeartbeats 2000000
set_option autoImplicit false
set_option pp.maxSteps 600
namespace Wn
open PySem L2
local macro_rules | `(tactic| walk_at "fam") => `(tactic| first | assumption | exact Fam.blk (by assumption) _ | exact Fam.blk (Fam.blk (by assumption) _) _)
local macro_rules | `(tactic| walk_at "at") => `(tactic| with_reducible first | exact At.z | exact At.s At.z | exact At.s (At.s At.z) | exact At.s (At.s (At.s At.z)) | exact At.s (At.s (At.s (At.s At.z))) | exact At.s (At.s (At.s (At.s (At.s At.z)))) | exact At.s (At.s (At.s (At.s (At.s (At.s At.z))))) | exact At.s (At.s (At.s (At.s (At.s (At.s (At.s At.z)))))) | exact At.s (At.s (At.s (At.s (At.s (At.s (At.s (At.s At.z))))))) | exact At.s (At.s (At.s (At.s (At.s (At.s (At.s (At.s (At.s At.z)))))))) | exact At.s (At.s (At.s (At.s (At.s (At.s (At.s (At.s (At.s (At.s At.z))))))))) | exact At.s (At.s (At.s (At.s (At.s (At.s (At.s (At.s (At.s (At.s (At.s At.z)))))))))) | exact At.s (At.s (At.s (At.s (At.s (At.s (At.s (At.s (At.s (At.s (At.s (At.s At.z))))))))))) | exact At.s (At.s (At.s (At.s (At.s (At.s (At.s (At.s (At.s (At.s (At.s (At.s (At.s At.z)))))))))))) | exact At.s (At.s (At.s (At.s (At.s (At.s (At.s (At.s (At.s (At.s (At.s (At.s (At.s (At.s At.z))))))))))))) | exact At.s (At.s (At.s (At.s (At.s (At.s (At.s (At.s (At.s (At.s (At.s (At.s (At.s (At.s (At.s At.z)))))))))))))) | exact At.s (At.s (At.s (At.s (At.s (At.s (At.s (At.s (At.s (At.s (At.s (At.s (At.s (At.s (At.s (At.s At.z))))))))))))))) | exact At.s (At.s (At.s (At.s (At.s (At.s (At.s (At.s (At.s (At.s (At.s (At.s (At.s (At.s (At.s (At.s (At.s At.z)))))))))))))))) | exact At.s (At.s (At.s (At.s (At.s (At.s (At.s (At.s (At.s (At.s (At.s (At.s (At.s (At.s (At.s (At.s (At.s (At.s At.z))))))))))))))))) | exact At.s (At.s (At.s (At.s (At.s (At.s (At.s (At.s (At.s (At.s (At.s (At.s (At.s (At.s (At.s (At.s (At.s (At.s (At.s At.z)))))))))))))))))) | exact At.s (At.s (At.s (At.s (At.s (At.s (At.s (At.s (At.s (At.s (At.s (At.s (At.s (At.s (At.s (At.s (At.s (At.s (At.s (At.s At.z))))))))))))))))))) | exact At.s (At.s (At.s (At.s (At.s (At.s (At.s (At.s (At.s (At.s (At.s (At.s (At.s (At.s (At.s (At.s (At.s (At.s (At.s (At.s (At.s At.z)))))))))))))))))))))
local macro_rules | `(tactic| walk_at "call") => `(tactic| first
  | ((with_reducible show We _ _ (.Call (.Name "len" _) _ _ _) _ _ _); refine b_len (by walk_at "fam") (by assumption) ?_)
  | ((with_reducible show We _ _ (.Call (.Name "isinstance" _) [_, .Name "int" _] _ _) _ _ _); refine b_isiInt (by walk_at "fam") (by assumption) ?_)
  | ((with_reducible show We _ _ (.Call (.Name "isinstance" _) [_, .Name "bool" _] _ _) _ _ _); refine b_isiBool (by walk_at "fam") (by assumption) ?_)
  | ((with_reducible show We _ _ (.Call (.Name "isinstance" _) [_, .Name "tuple" _] _ _) _ _ _); refine b_isiTup (by walk_at "fam") (by assumption) ?_)
  | ((with_reducible show We _ _ (.Call (.Name "abs" _) _ _ _) _ _ _); refine b_abs (by walk_at "fam") (by assumption) ?_)
  | ((with_reducible show We _ _ (.Call (.Name "int" _) _ _ _) _ _ _); refine b_intB (by walk_at "fam") (by assumption) ?_)
  | ((with_reducible show We _ _ (.Call (.Name "tuple" _) _ _ _) _ _ _); refine b_tup (by walk_at "fam") (by assumption) ?_)
  | ((with_reducible show We _ _ (.Call (.Name "list" _) [.Call (.Name "range" _) _ _ _] _ _) _ _ _); refine we_listRg (by walk_at "fam") (Bt.list (by assumption)) (Bt.range (by assumption)) ?_)
  | ((with_reducible show We _ _ (.Call (.Name "list" _) _ _ _) _ _ _); refine b_lst (by walk_at "fam") (by assumption) ?_)
  | ((with_reducible show We _ _ (.Call (.Name "min" _) [_, _] _ _) _ _ _); refine b_min2 (by walk_at "fam") (by assumption) ?_)
  | ((with_reducible show We _ _ (.Call (.Name "min" _) [_] [_] _) _ _ _); refine we_minDD (by walk_at "fam") (Bt.min (by assumption)) ?_)
  | ((with_reducible show We _ _ (.Call (.Name "min" _) [_] [] _) _ _ _); refine b_min1 (by walk_at "fam") (by assumption) ?_)
  | ((with_reducible show We _ _ (.Call (.Name "sorted" _) _ _ _) _ _ _); refine b_sorted (by walk_at "fam") (by assumption) ?_)
  | ((with_reducible show We _ _ (.Call (.Attribute _ "append" _) _ _ _) _ _ _); refine we_append (by walk_at "fam") ?_)
  | ((with_reducible show We _ _ (.Call (.Name _ _) _ _ _) _ _ _); refine we_call (by walk_at "fam") (by assumption) (by decide) ?_)
  | ((with_reducible show We _ _ (.Call (.Name _ _) _ _ _) _ _ _); refine we_make (by walk_at "fam") (by assumption) (by decide) ?_)
  | ((with_reducible show We _ _ (.Call (.Attribute _ _ _) (_ :: _) _ _) _ _ _); refine we_meth (by walk_at "fam") (by assumption) (by decide) ?_)
  | ((with_reducible show We _ _ (.Call (.Attribute _ _ _) [] _ _) _ _ _); refine we_meth0 (by walk_at "fam") (by assumption) (by decide) ?_))
local macro_rules | `(tactic| walk_at "e") => `(tactic| first
  | ((with_reducible show We _ _ (.Name _ _) _ _ _); first | refine we_varA (by walk_at "fam") (by walk_at "at") (by rfl) ?_ | refine we_gint (by walk_at "fam") (by assumption) ?_)
  | ((with_reducible show We _ _ (.Constant _ _ _) _ _ _); first | refine we_int ?_ | refine we_bl ?_ | refine we_non ?_ | refine we_str ?_)
  | ((with_reducible show We _ _ (.BinOp _ _ _ _) _ _ _); refine we_bin ?_)
  | ((with_reducible show We _ _ (.Compare _ [_] _ _) _ _ _); refine we_cmp ?_)
  | ((with_reducible show We _ _ (.Compare _ [_, _] _ _) _ _ _); refine we_chain ?_)
  | ((with_reducible show We _ _ (.BoolOp _ [_] _) _ _ _); refine we_one ?_)
  | ((with_reducible show We _ _ (.BoolOp .And _ _) _ _ _); refine we_and ?_)
  | ((with_reducible show We _ _ (.BoolOp .Or _ _) _ _ _); refine we_or ?_)
  | ((with_reducible show We _ _ (.UnaryOp .Not _ _) _ _ _); refine we_not ?_)
  | ((with_reducible show We _ _ (.IfExp _ _ _ _) _ _ _); refine we_ifExp ?_)
  | ((with_reducible show We _ _ (.Tuple _ _ _) _ _ _); refine we_tup ?_)
  | ((with_reducible show We _ _ (.List _ _) _ _ _); refine we_lst ?_)
  | ((with_reducible show We _ _ (.Subscript _ (.Slice _ _ _ _) _) _ _ _); refine we_slice (by walk_at "fam") ?_)
  | ((with_reducible show We _ _ (.Subscript _ _ _) _ _ _); refine we_ix ?_)
  | ((with_reducible show We _ _ (.Attribute _ _ _) _ _ _); refine we_fld (by walk_at "fam") ?_)
  | walk_at "call"
  | ((with_reducible show Wo _ _ none _ _ _); refine wo_none ?_)
  | ((with_reducible show Wo _ _ (some _) _ _ _); refine wo_some ?_)
  | ((with_reducible show Wr _ _ [] _ _ _); refine wr_nil ?_)
  | ((with_reducible show Wr _ _ (_ :: _) _ _ _); refine wr_cons ?_)
  | ((with_reducible show Wt _ _ (.UnaryOp .Not _ _) _ _ _); refine wt_not ?_)
  | ((with_reducible show Wt _ _ (.BoolOp .And _ _) _ _ _); refine wt_w (ww_and ?_))
  | ((with_reducible show Wt _ _ (.BoolOp .Or _ _) _ _ _); refine wt_w (ww_or ?_))
  | ((with_reducible show Wt _ _ (.Compare _ [_] _ _) _ _ _); refine wt_cmp ?_)
  | ((with_reducible show Wt _ _ _ _ _ _); refine wt_val ?_)
  | ((with_reducible show Ww _ _ (.BoolOp .And [_] _) _ _ _); refine ww_and1 ?_)
  | ((with_reducible show Ww _ _ (.BoolOp .Or [_] _) _ _ _); refine ww_or1 ?_)
  | ((with_reducible show Ww _ _ (.BoolOp .And _ _) _ _ _); refine ww_and ?_)
  | ((with_reducible show Ww _ _ (.BoolOp .Or _ _) _ _ _); refine ww_or ?_)
  | ((with_reducible show Ws _ _ [] _ _ _); refine ws_nil ?_)
  | ((with_reducible show Ws _ _ (_ :: _) _ _ _); refine ws_cons ?_)
  | ((with_reducible show Ws1 _ _ (.Return (some _) _) _ _ _); refine ws_ret ?_)
  | ((with_reducible show Ws1 _ _ (.If _ _ _ _) _ _ _); refine ws_if ?_)
  | ((with_reducible show Ws1 _ _ (.Expr _ _) _ _ _); refine ws_expr ?_)
  | ((with_reducible show Ws1 _ _ (.Assign [.Name _ _] (.ListComp _ _ _ _) _) _ _ _); fail)
  | ((with_reducible show Ws1 _ _ (.Assign [.Name _ _] _ _) _ _ _); refine ws_setA (by walk_at "fam") (by walk_at "at") ?_)
  | ((with_reducible show Ws1 _ _ (.Assign [.Attribute _ _ _] _ _) _ _ _); refine ws_fld (by walk_at "fam") ?_)
  | ((with_reducible show Ws1 _ _ (.Assign [_] _ _) _ _ _); refine ws_asg ?_)
  | ((with_reducible show Wts _ _ [] _ _ _); refine wts_nil ?_)
  | ((with_reducible show Wts _ _ [_] _ _ _); refine wts_one ?_)
  | ((with_reducible show Wg _ _ _ (.Name _ _) _ _ _ _); refine wg_nameA (by walk_at "fam") (by walk_at "at") ?_)
  | ((with_reducible show Wg _ _ _ (.Tuple _ _ _) _ _ _ _); refine wg_tup (by walk_at "fam") ?_)
  | ((with_reducible show Wg _ _ _ (.Subscript _ _ _) _ _ _ _); refine wg_sub ?_)
  | refine wgs_nil ?_ | refine wgs_cons ?_)
local macro_rules | `(tactic| walk_at "w") => `(tactic| repeat walk_at "e")
abbrev stShort : Stmt := topS 31
theorem scShort : FnScope ["_law_houses", "_law_roads_here", "_law_up", "_law_far", "_law_k", "_law_a", "_law_b", "_law_delay", "_law_size", "_law_row"] ["_law_houses", "_law_roads_here", "_law_up"] (defScope stShort) := ⟨rfl, rfl, rfl, by decide +kernel, rfl, by decide +kernel, by decide +kernel⟩
/-! a matrix in the store -/
def rowM (n : Nat) (g : Nat → Int) : List MV := (List.range n).map fun j => .d (.int (g j))
def rowsO (n : Nat) (f : Tab) : Mm := (List.range n).map fun i => .lst (rowM n (f i))
def refsM (L n : Nat) : List MV := (List.range n).map fun i => .r (L + i)
def mat (m0 : Mm) (n : Nat) (f : Tab) : Mm := m0 ++ (rowsO n f ++ [.lst (refsM m0.length n)])
def upd2 (f : Tab) (i j : Nat) (v : Int) : Tab := fun a b => if a = i ∧ b = j then v else f a b
theorem rowsO_len (n : Nat) (f : Tab) : (rowsO n f).length = n := by simp [rowsO]
theorem rowM_at {n j : Nat} {g : Nat → Int} (h : j < n) : (rowM n g)[j]? = some (.d (.int (g j))) := by simp [rowM, h]
theorem refsM_at {L n i : Nat} (h : i < n) : (refsM L n)[i]? = some (.r (L + i)) := by simp [refsM, h]
theorem mat_row {m0 : Mm} {n i : Nat} {f : Tab} (h : i < n) : (mat m0 n f)[m0.length + i]? = some (.lst (rowM n (f i))) := by
  unfold mat
  rw [List.getElem?_append_right (by omega), Nat.add_sub_cancel_left, List.getElem?_append_left (by rw [rowsO_len]; exact h)]
  simp [rowsO, h]
theorem mat_out (m0 : Mm) (n : Nat) (f : Tab) : (mat m0 n f)[m0.length + n]? = some (.lst (refsM m0.length n)) := by
  unfold mat
  rw [List.getElem?_append_right (by omega), Nat.add_sub_cancel_left, List.getElem?_append_right (by rw [rowsO_len]; exact Nat.le_refl _), rowsO_len]
  simp
theorem mat_set {m0 : Mm} {n i j : Nat} {f : Tab} {v : Int} (hi : i < n) : (mat m0 n f).set (m0.length + i) (.lst ((rowM n (f i)).set j (.d (.int v)))) = mat m0 n (upd2 f i j v) := by
  unfold mat
  rw [List.set_append_right _ _ (by omega), Nat.add_sub_cancel_left, List.set_append_left _ _ (by rw [rowsO_len]; exact hi)]
  congr 2
  unfold rowsO
  apply List.ext_getElem?
  intro k
  by_cases e : i = k
  · subst e
    rw [List.getElem?_set_self (by simpa using hi), range_at _ hi]
    congr 2
    unfold rowM
    apply List.ext_getElem?
    intro l
    by_cases e2 : j = l
    · subst e2
      by_cases hl : j < n
      · rw [List.getElem?_set_self (by simpa using hl), range_at _ hl]
        simp [upd2]
      · rw [List.getElem?_eq_none (by simp; omega), List.getElem?_eq_none (by simp; omega)]
    · rw [List.getElem?_set_ne e2]
      by_cases hl : l < n
      · rw [range_at _ hl, range_at _ hl]
        simp [upd2, Ne.symm e2]
      · rw [List.getElem?_eq_none (by simp; omega), List.getElem?_eq_none (by simp; omega)]
  · rw [List.getElem?_set_ne e]
    by_cases hk : k < n
    · rw [range_at _ hk, range_at _ hk]
      congr 2
      unfold rowM
      apply List.map_congr_left
      intro l _
      simp [upd2, Ne.symm e]
    · rw [List.getElem?_eq_none (by simp; omega), List.getElem?_eq_none (by simp; omega)]
theorem mat_congr {m0 : Mm} {n : Nat} {f g : Tab} (h : Same2 n f g) : mat m0 n f = mat m0 n g := by
  unfold mat
  congr 2
  unfold rowsO
  exact range_map_eq.mpr fun i hi => by
    unfold rowM
    congr 1
    exact range_map_eq.mpr fun j hj => by rw [h i hi j hj]
theorem mat_seq {m0 : Mm} {n : Nat} {f : Tab} {y : MV} {xs : List MV} (h : seqOf m0 y = some xs) : seqOf (mat m0 n f) y = some xs := seqOf_app h
/-! roads that are up, as edges -/
def Ed2 (rs : List Row) (us : List Bool) (i h : Nat) (d : Nat) : Prop := ∃ (k : Nat) (r : Row), rs[k]? = some r ∧ us[k]? = some true ∧ ((i = r.a ∧ h = r.b) ∨ (i = r.b ∧ h = r.a)) ∧ d = r.d
/-- a table that lies below all ways -/
structure Low (n : Nat) (rs : List Row) (us : List Bool) (f : Tab) : Prop where
  diag : ∀ i, i < n → f i i = 0
  top : ∀ i, i < n → ∀ j, j < n → f i j ≤ 24
  edge : ∀ i h d, Ed2 rs us i h d → f i h ≤ d
  tri : ∀ i, i < n → ∀ j, j < n → ∀ k, k < n → f i j ≤ f i k + f k j
structure W0 (n : Nat) (rs : List Row) (us : List Bool) (W : Tab) : Prop where
  bd : Bd n W
  diag : ∀ i, i < n → W i i = 0
  low : ∀ f, Low n rs us f → ∀ i, i < n → ∀ j, j < n → f i j ≤ W i j
structure IsW (n : Nat) (rs : List Row) (us : List Bool) (k : Nat) (W : Tab) : Prop where
  w0 : W0 n rs us W
  edge : ∀ i h d, Ed2 rs us i h d → W i h ≤ d
  tri : ∀ l, l < k → ∀ i, i < n → ∀ j, j < n → W i j ≤ W i l + W l j
/-- a stage of the middle house k -/
def stage (W : Tab) (k : Nat) : Tab := fun i j => min (W i j) (W i k + W k j)
theorem stage_ok {n : Nat} {rs : List Row} {us : List Bool} {k : Nat} {W : Tab} (h : IsW n rs us k W) (hk : k < n) (hE : ∀ i h d, Ed2 rs us i h d → i < n ∧ h < n) : IsW n rs us (k + 1) (stage W k) := by
  have b := h.w0.bd
  have dg := h.w0.diag
  refine ⟨⟨fun i hi j hj => ?_, fun i hi => ?_, fun f hf i hi j hj => ?_⟩, fun i t d he => ?_, fun l hl i hi j hj => ?_⟩
  · have := b i hi j hj; have := b i hi k hk; have := b k hk j hj
    unfold stage; omega
  · have := dg i hi; have := b i hi k hk; have := b k hk i hi
    unfold stage; omega
  · have := h.w0.low f hf i hi j hj; have := h.w0.low f hf i hi k hk; have := h.w0.low f hf k hk j hj; have := hf.tri i hi j hj k hk
    unfold stage; omega
  · have := h.edge i t d he
    unfold stage; omega
  · have kk := dg k hk
    by_cases e : l = k
    · subst e
      have := b i hi l hk; have := b l hk j hj; have := b i hi j hj
      unfold stage; omega
    · have t := h.tri l (by omega)
      have hl' : l < n := by omega
      have t1 := t i hi j hj
      have t2 := t k hk j hj
      have t3 := t i hi k hk
      have := b i hi k hk; have := b k hk j hj; have := b k hk l hl'; have := b l hl' k hk; have := b i hi l hl'; have := b l hl' j hj
      unfold stage; omega
/-- within a stage: the pairs ahead of (a, b) are done -/
def mid (W : Tab) (k a b : Nat) : Tab := fun i j => if i < a ∨ (i = a ∧ j < b) then min (W i j) (W i k + W k j) else W i j
theorem mid_step {n : Nat} {W : Tab} {k a b : Nat} (hn : Bd n W) (dg : W k k = 0) (hk : k < n) (ha : a < n) (hb : b < n) :
    Same2 n (upd2 (mid W k a b) a b (if mid W k a b a k + mid W k a b k b < mid W k a b a b then mid W k a b a k + mid W k a b k b else mid W k a b a b)) (mid W k a (b + 1)) := by
  have e1 : mid W k a b a k = W a k := by unfold mid; split <;> omega
  have e2 : mid W k a b k b = W k b := by unfold mid; split <;> omega
  have e3 : mid W k a b a b = W a b := by unfold mid; rw [if_neg (by omega)]
  intro i hi j hj
  unfold upd2
  by_cases e : i = a ∧ j = b
  · have e4 : mid W k a (b + 1) a b = min (W a b) (W a k + W k b) := by unfold mid; rw [if_pos (by omega)]
    rw [if_pos e, e1, e2, e3, e.1, e.2, e4]
    split <;> omega
  · rw [if_neg e]
    unfold mid
    by_cases q : i < a ∨ (i = a ∧ j < b)
    · rw [if_pos q, if_pos (by omega)]
    · rw [if_neg q, if_neg (by omega)]
def sShort (xs : List MV) (m : Mm) (Q : QV) : Prop := ∃ (n : Nat) (rs : List Row) (y : MV) (us : List Bool), xs = [.d (.int n), .d (.tuple (rowsD rs)), y] ∧ seqOf m y = some (blsD us) ∧ us.length = rs.length ∧ Gr n rs ∧ ∀ W, IsW n rs us n W → Q (.d (tabD n W)) m
theorem rowD_at {rs : List Row} {k : Nat} {r : Row} (h : rs[k]? = some r) : ((rowsD rs).map MV.d)[k]? = some (.d (.tuple [.int r.a, .int r.b, .int r.d, .int r.s])) := rowsD_at h
section
variable {P : Program} {w : World} {K : PySem.W.Frag} {mg : Str → Option Value} {base : Heap} {f : Addr} {fd : FuncData}
/-- far[a][b], read -/
theorem we_cell {ι : Type} {X : ι → Cx} {N : List Str} {sc : Scope} {fv : Str → Bool} {k : Nat} {ρ : Ro} {m0 : Mm} {n a b : Nat} {W : Tab} {Q : QV} {eo ea eb : Expr} {p1 p2 : Pos} (F : Fam X P w K mg base N sc fv k) (ha : a < n) (hb : b < n)
    (h : We X K eo ρ (mat m0 n W) fun x m1 => x = .r (m0.length + n) ∧ m1 = mat m0 n W ∧ We X K ea ρ (mat m0 n W) fun y m2 => y = .d (.int a) ∧ m2 = mat m0 n W ∧ We X K eb ρ (mat m0 n W) fun z m3 => z = .d (.int b) ∧ m3 = mat m0 n W ∧ Q (.d (.int (W a b))) (mat m0 n W))
    (h1 : PlainIx ea := by intro _ _; rfl) (h2 : PlainIx eb := by intro _ _; rfl) : We X K (.Subscript (.Subscript eo ea p1) eb p2) ρ (mat m0 n W) Q := by
  refine we_ix (we_ix (h.mono ?_) h1) h2
  rintro x m1 ⟨rfl, rfl, h⟩
  refine h.mono ?_
  rintro y m2 ⟨rfl, rfl, h⟩
  refine ix_w F (seqOf_r (mat_out _ _ _)) (atI_of (refsM_at ha) rfl) (h.mono ?_)
  rintro z m3 ⟨rfl, rfl, q⟩
  exact ix_w F (seqOf_r (mat_row ha)) (atI_of (rowM_at hb) rfl) q
/-- far[a][b] = v -/
theorem wg_cell {ι : Type} {X : ι → Cx} {N : List Str} {sc : Scope} {fv : Str → Bool} {k : Nat} {ρ : Ro} {m0 : Mm} {n a b : Nat} {W : Tab} {v : Int} {vs : Nat → Prop} {Q : Ro → Mm → Prop} {eo ea eb : Expr} {p1 p2 : Pos} (F : Fam X P w K mg base N sc fv k) (ha : a < n) (hb : b < n)
    (h : We X K eo ρ (mat m0 n W) fun x m1 => x = .r (m0.length + n) ∧ m1 = mat m0 n W ∧ We X K ea ρ (mat m0 n W) fun y m2 => y = .d (.int a) ∧ m2 = mat m0 n W ∧ We X K eb ρ (mat m0 n W) fun z m3 => z = .d (.int b) ∧ m3 = mat m0 n W ∧ Q ρ (mat m0 n (upd2 W a b v)))
    (h1 : PlainIx ea := by intro _ _; rfl)
    (hs : ∀ (env : Env) (v : Value), assign (.Subscript (.Subscript eo ea p1) eb p2) env v = (do
      let ov ← holding [v] (eval (.Subscript eo ea p1) env)
      let iv ← holding [v, ov] (eval eb env)
      standAt p2
      holding [v, ov, iv] (setItem ov iv v)
      release [v, ov, iv] []) := by intro _ _; rfl) : Wg X K vs (.Subscript (.Subscript eo ea p1) eb p2) (.d (.int v)) ρ (mat m0 n W) Q := by
  refine wg_sub (we_ix (h.mono ?_) h1) hs
  rintro x m1 ⟨rfl, rfl, h⟩
  refine h.mono ?_
  rintro y m2 ⟨rfl, rfl, h⟩
  refine ix_w F (seqOf_r (mat_out _ _ _)) (atI_of (refsM_at ha) rfl) (h.mono ?_)
  rintro z m3 ⟨rfl, rfl, q⟩
  refine setw_list (mat_row ha) (ixN_of (by simpa [rowM] using hb) rfl) ?_
  rw [mat_set ha]
  exact q
end

end Wn
set_option Elab.async false
set_option linter.all false
set_option maxRecDepth 100000
set_option maxHeartbeats 2000000
set_option autoImplicit false
set_option pp.maxSteps 600
namespace Wn
open PySem L2
local macro_rules | `(tactic| walk_at "fam") => `(tactic| first | assumption | exact Fam.blk (by assumption) _ | exact Fam.blk (Fam.blk (by assumption) _) _)
local macro_rules | `(tactic| walk_at "at") => `(tactic| with_reducible first | exact At.z | exact At.s At.z | exact At.s (At.s At.z) | exact At.s (At.s (At.s At.z)) | exact At.s (At.s (At.s (At.s At.z))) | exact At.s (At.s (At.s (At.s (At.s At.z)))) | exact At.s (At.s (At.s (At.s (At.s (At.s At.z))))) | exact At.s (At.s (At.s (At.s (At.s (At.s (At.s At.z)))))) | exact At.s (At.s (At.s (At.s (At.s (At.s (At.s (At.s At.z))))))) | exact At.s (At.s (At.s (At.s (At.s (At.s (At.s (At.s (At.s At.z)))))))) | exact At.s (At.s (At.s (At.s (At.s (At.s (At.s (At.s (At.s (At.s At.z))))))))) | exact At.s (At.s (At.s (At.s (At.s (At.s (At.s (At.s (At.s (At.s (At.s At.z)))))))))) | exact At.s (At.s (At.s (At.s (At.s (At.s (At.s (At.s (At.s (At.s (At.s (At.s At.z))))))))))) | exact At.s (At.s (At.s (At.s (At.s (At.s (At.s (At.s (At.s (At.s (At.s (At.s (At.s At.z)))))))))))) | exact At.s (At.s (At.s (At.s (At.s (At.s (At.s (At.s (At.s (At.s (At.s (At.s (At.s (At.s At.z))))))))))))) | exact At.s (At.s (At.s (At.s (At.s (At.s (At.s (At.s (At.s (At.s (At.s (At.s (At.s (At.s (At.s At.z)))))))))))))) | exact At.s (At.s (At.s (At.s (At.s (At.s (At.s (At.s (At.s (At.s (At.s (At.s (At.s (At.s (At.s (At.s At.z))))))))))))))) | exact At.s (At.s (At.s (At.s (At.s (At.s (At.s (At.s (At.s (At.s (At.s (At.s (At.s (At.s (At.s (At.s (At.s At.z)))))))))))))))) | exact At.s (At.s (At.s (At.s (At.s (At.s (At.s (At.s (At.s (At.s (At.s (At.s (At.s (At.s (At.s (At.s (At.s (At.s At.z))))))))))))))))) | exact At.s (At.s (At.s (At.s (At.s (At.s (At.s (At.s (At.s (At.s (At.s (At.s (At.s (At.s (At.s (At.s (At.s (At.s (At.s At.z)))))))))))))))))) | exact At.s (At.s (At.s (At.s (At.s (At.s (At.s (At.s (At.s (At.s (At.s (At.s (At.s (At.s (At.s (At.s (At.s (At.s (At.s (At.s At.z))))))))))))))))))) | exact At.s (At.s (At.s (At.s (At.s (At.s (At.s (At.s (At.s (At.s (At.s (At.s (At.s (At.s (At.s (At.s (At.s (At.s (At.s (At.s (At.s At.z)))))))))))))))))))))
local macro_rules | `(tactic| walk_at "call") => `(tactic| first
  | ((with_reducible show We _ _ (.Call (.Name "len" _) _ _ _) _ _ _); refine b_len (by walk_at "fam") (by assumption) ?_)
  | ((with_reducible show We _ _ (.Call (.Name "isinstance" _) [_, .Name "int" _] _ _) _ _ _); refine b_isiInt (by walk_at "fam") (by assumption) ?_)
  | ((with_reducible show We _ _ (.Call (.Name "isinstance" _) [_, .Name "bool" _] _ _) _ _ _); refine b_isiBool (by walk_at "fam") (by assumption) ?_)
  | ((with_reducible show We _ _ (.Call (.Name "isinstance" _) [_, .Name "tuple" _] _ _) _ _ _); refine b_isiTup (by walk_at "fam") (by assumption) ?_)
  | ((with_reducible show We _ _ (.Call (.Name "abs" _) _ _ _) _ _ _); refine b_abs (by walk_at "fam") (by assumption) ?_)
  | ((with_reducible show We _ _ (.Call (.Name "int" _) _ _ _) _ _ _); refine b_intB (by walk_at "fam") (by assumption) ?_)
  | ((with_reducible show We _ _ (.Call (.Name "tuple" _) _ _ _) _ _ _); refine b_tup (by walk_at "fam") (by assumption) ?_)
  | ((with_reducible show We _ _ (.Call (.Name "list" _) [.Call (.Name "range" _) _ _ _] _ _) _ _ _); refine we_listRg (by walk_at "fam") (Bt.list (by assumption)) (Bt.range (by assumption)) ?_)
  | ((with_reducible show We _ _ (.Call (.Name "list" _) _ _ _) _ _ _); refine b_lst (by walk_at "fam") (by assumption) ?_)
  | ((with_reducible show We _ _ (.Call (.Name "min" _) [_, _] _ _) _ _ _); refine b_min2 (by walk_at "fam") (by assumption) ?_)
  | ((with_reducible show We _ _ (.Call (.Name "min" _) [_] [_] _) _ _ _); refine we_minDD (by walk_at "fam") (Bt.min (by assumption)) ?_)
  | ((with_reducible show We _ _ (.Call (.Name "min" _) [_] [] _) _ _ _); refine b_min1 (by walk_at "fam") (by assumption) ?_)
  | ((with_reducible show We _ _ (.Call (.Name "sorted" _) _ _ _) _ _ _); refine b_sorted (by walk_at "fam") (by assumption) ?_)
  | ((with_reducible show We _ _ (.Call (.Attribute _ "append" _) _ _ _) _ _ _); refine we_append (by walk_at "fam") ?_)
  | ((with_reducible show We _ _ (.Call (.Name _ _) _ _ _) _ _ _); refine we_call (by walk_at "fam") (by assumption) (by decide) ?_)
  | ((with_reducible show We _ _ (.Call (.Name _ _) _ _ _) _ _ _); refine we_make (by walk_at "fam") (by assumption) (by decide) ?_)
  | ((with_reducible show We _ _ (.Call (.Attribute _ _ _) (_ :: _) _ _) _ _ _); refine we_meth (by walk_at "fam") (by assumption) (by decide) ?_)
  | ((with_reducible show We _ _ (.Call (.Attribute _ _ _) [] _ _) _ _ _); refine we_meth0 (by walk_at "fam") (by assumption) (by decide) ?_))
local macro_rules | `(tactic| walk_at "e") => `(tactic| first
  | ((with_reducible show We _ _ (.Name _ _) _ _ _); first | refine we_varA (by walk_at "fam") (by walk_at "at") (by rfl) ?_ | refine we_gint (by walk_at "fam") (by assumption) ?_)
  | ((with_reducible show We _ _ (.Constant _ _ _) _ _ _); first | refine we_int ?_ | refine we_bl ?_ | refine we_non ?_ | refine we_str ?_)
  | ((with_reducible show We _ _ (.BinOp _ _ _ _) _ _ _); refine we_bin ?_)
  | ((with_reducible show We _ _ (.Compare _ [_] _ _) _ _ _); refine we_cmp ?_)
  | ((with_reducible show We _ _ (.Compare _ [_, _] _ _) _ _ _); refine we_chain ?_)
  | ((with_reducible show We _ _ (.BoolOp _ [_] _) _ _ _); refine we_one ?_)
  | ((with_reducible show We _ _ (.BoolOp .And _ _) _ _ _); refine we_and ?_)
  | ((with_reducible show We _ _ (.BoolOp .Or _ _) _ _ _); refine we_or ?_)
  | ((with_reducible show We _ _ (.UnaryOp .Not _ _) _ _ _); refine we_not ?_)
  | ((with_reducible show We _ _ (.IfExp _ _ _ _) _ _ _); refine we_ifExp ?_)
  | ((with_reducible show We _ _ (.Tuple _ _ _) _ _ _); refine we_tup ?_)
  | ((with_reducible show We _ _ (.List _ _) _ _ _); refine we_lst ?_)
  | ((with_reducible show We _ _ (.Subscript _ (.Slice _ _ _ _) _) _ _ _); refine we_slice (by walk_at "fam") ?_)
  | ((with_reducible show We _ _ (.Subscript _ _ _) _ _ _); refine we_ix ?_)
  | ((with_reducible show We _ _ (.Attribute _ _ _) _ _ _); refine we_fld (by walk_at "fam") ?_)
  | walk_at "call"
  | ((with_reducible show Wo _ _ none _ _ _); refine wo_none ?_)
  | ((with_reducible show Wo _ _ (some _) _ _ _); refine wo_some ?_)
  | ((with_reducible show Wr _ _ [] _ _ _); refine wr_nil ?_)
  | ((with_reducible show Wr _ _ (_ :: _) _ _ _); refine wr_cons ?_)
  | ((with_reducible show Wt _ _ (.UnaryOp .Not _ _) _ _ _); refine wt_not ?_)
  | ((with_reducible show Wt _ _ (.BoolOp .And _ _) _ _ _); refine wt_w (ww_and ?_))
  | ((with_reducible show Wt _ _ (.BoolOp .Or _ _) _ _ _); refine wt_w (ww_or ?_))
  | ((with_reducible show Wt _ _ (.Compare _ [_] _ _) _ _ _); refine wt_cmp ?_)
  | ((with_reducible show Wt _ _ _ _ _ _); refine wt_val ?_)
  | ((with_reducible show Ww _ _ (.BoolOp .And [_] _) _ _ _); refine ww_and1 ?_)
  | ((with_reducible show Ww _ _ (.BoolOp .Or [_] _) _ _ _); refine ww_or1 ?_)
  | ((with_reducible show Ww _ _ (.BoolOp .And _ _) _ _ _); refine ww_and ?_)
  | ((with_reducible show Ww _ _ (.BoolOp .Or _ _) _ _ _); refine ww_or ?_)
  | ((with_reducible show Ws _ _ [] _ _ _); refine ws_nil ?_)
  | ((with_reducible show Ws _ _ (_ :: _) _ _ _); refine ws_cons ?_)
  | ((with_reducible show Ws1 _ _ (.Return (some _) _) _ _ _); refine ws_ret ?_)
  | ((with_reducible show Ws1 _ _ (.If _ _ _ _) _ _ _); refine ws_if ?_)
  | ((with_reducible show Ws1 _ _ (.Expr _ _) _ _ _); refine ws_expr ?_)
  | ((with_reducible show Ws1 _ _ (.Assign [.Name _ _] (.ListComp _ _ _ _) _) _ _ _); fail)
  | ((with_reducible show Ws1 _ _ (.Assign [.Name _ _] _ _) _ _ _); refine ws_setA (by walk_at "fam") (by walk_at "at") ?_)
  | ((with_reducible show Ws1 _ _ (.Assign [.Attribute _ _ _] _ _) _ _ _); refine ws_fld (by walk_at "fam") ?_)
  | ((with_reducible show Ws1 _ _ (.Assign [_] _ _) _ _ _); refine ws_asg ?_)
  | ((with_reducible show Wts _ _ [] _ _ _); refine wts_nil ?_)
  | ((with_reducible show Wts _ _ [_] _ _ _); refine wts_one ?_)
  | ((with_reducible show Wg _ _ _ (.Name _ _) _ _ _ _); refine wg_nameA (by walk_at "fam") (by walk_at "at") ?_)
  | ((with_reducible show Wg _ _ _ (.Tuple _ _ _) _ _ _ _); refine wg_tup (by walk_at "fam") ?_)
  | ((with_reducible show Wg _ _ _ (.Subscript _ _ _) _ _ _ _); refine wg_sub ?_)
  | refine wgs_nil ?_ | refine wgs_cons ?_)
local macro_rules | `(tactic| walk_at "w") => `(tactic| repeat walk_at "e")
def f0 : Tab := fun i j => if i = j then 0 else 24
structure Done (n : Nat) (rs : List Row) (us : List Bool) (k : Nat) (V : Tab) : Prop where
  w0 : W0 n rs us V
  done : ∀ (l : Nat) (r : Row), l < k → rs[l]? = some r → us[l]? = some true → V r.a r.b = r.d ∧ V r.b r.a = r.d
theorem done_0 {n : Nat} {rs : List Row} {us : List Bool} : Done n rs us 0 f0 :=
  ⟨⟨fun i _ j _ => by unfold f0; split <;> omega, fun i _ => by unfold f0; rw [if_pos rfl], fun f hf i hi j hj => by
    unfold f0
    split
    · rename_i e; subst e; rw [hf.diag i hi]; exact Int.le_refl _
    · exact hf.top i hi j hj⟩, fun l r hl => by omega⟩
theorem done_skip {n : Nat} {rs : List Row} {us : List Bool} {k : Nat} {V : Tab} (h : Done n rs us k V) (hu : us[k]? = some false) : Done n rs us (k + 1) V :=
  ⟨h.w0, fun l r hl hr hul => h.done l r (by
    by_cases e : l = k
    · subst e; rw [hu] at hul; cases hul
    · omega) hr hul⟩
theorem done_put {n : Nat} {rs : List Row} {us : List Bool} {k : Nat} {V : Tab} {r : Row} (g : Gr n rs) (h : Done n rs us k V) (hr : rs[k]? = some r) (hu : us[k]? = some true) : Done n rs us (k + 1) (upd2 (upd2 V r.a r.b r.d) r.b r.a r.d) := by
  have ok := g.row r (List.mem_of_getElem? hr)
  have ab := ok.ab
  have bn := ok.bn
  have d2 := ok.d2
  refine ⟨⟨fun i hi j hj => ?_, fun i hi => ?_, fun f hf i hi j hj => ?_⟩, fun l q hl hq hul => ?_⟩
  · have := h.w0.bd i hi j hj
    unfold upd2; split
    · omega
    · split <;> omega
  · have := h.w0.diag i hi
    unfold upd2
    rw [if_neg (by omega), if_neg (by omega)]
    exact this
  · have l0 := h.w0.low f hf i hi j hj
    have e1 := hf.edge r.a r.b r.d ⟨k, r, hr, hu, .inl ⟨rfl, rfl⟩, rfl⟩
    have e2 := hf.edge r.b r.a r.d ⟨k, r, hr, hu, .inr ⟨rfl, rfl⟩, rfl⟩
    unfold upd2; split
    · rename_i e; rw [e.1, e.2]; exact e2
    · split
      · rename_i e; rw [e.1, e.2]; exact e1
      · exact l0
  · by_cases e : l = k
    · subst e
      rw [hr] at hq; cases hq
      unfold upd2
      constructor
      · rw [if_neg (by omega), if_pos ⟨rfl, rfl⟩]
      · rw [if_pos ⟨rfl, rfl⟩]
    · have un := row_uniq g hq hr (by omega)
      have okq := g.row q (List.mem_of_getElem? hq)
      have abq := okq.ab
      obtain ⟨o1, o2⟩ := h.done l q (by omega) hq hul
      unfold upd2
      constructor
      · rw [if_neg (by omega), if_neg (by omega)]; exact o1
      · rw [if_neg (by omega), if_neg (by omega)]; exact o2
theorem done_isW {n : Nat} {rs : List Row} {us : List Bool} {V : Tab} (h : Done n rs us rs.length V) : IsW n rs us 0 V :=
  ⟨h.w0, fun i t d ⟨k, r, hr, hu, q, ed⟩ => by
    obtain ⟨o1, o2⟩ := h.done k r ((List.getElem?_eq_some_iff.mp hr).1) hr hu
    subst ed
    rcases q with ⟨rfl, rfl⟩ | ⟨rfl, rfl⟩
    · omega
    · omega, fun l hl => by omega⟩
theorem ed_lt {n : Nat} {rs : List Row} {us : List Bool} (g : Gr n rs) : ∀ i h d, Ed2 rs us i h d → i < n ∧ h < n := fun i h d ⟨k, r, hr, _, q, _⟩ => by
  have ok := g.row r (List.mem_of_getElem? hr)
  have := ok.ab; have := ok.bn
  rcases q with ⟨rfl, rfl⟩ | ⟨rfl, rfl⟩ <;> omega
section
variable {P : Program} {w : World} {K : PySem.W.Frag} {mg : Str → Option Value} {base : Heap} {f : Addr} {fd : FuncData}
theorem take_app_one {α : Type} {l : List α} {i : Nat} {x : α} (m : List α) (h : l[i]? = some x) : (m ++ l.take i) ++ [x] = m ++ l.take (i + 1) := by
  rw [List.append_assoc, take_one h]
theorem rowsO_at {n i : Nat} {f : Tab} (h : i < n) : (rowsO n f)[i]? = some (.lst (rowM n (f i))) := by simp [rowsO, h]
theorem ok_short (F : Fun K "_law_shortest" "_law_shortest" stShort f fd) (B : Bt mg) : FnOk P w K mg base CX0 1 f fd ["_law_houses", "_law_roads_here", "_law_up"] (spM K sShort) := by
  refine fn_m F scShort (fun xs m Q h => by obtain ⟨_, _, _, _, rfl, _⟩ := h; rfl) fun X Fm xs m Q ⟨n, rs, y, us, ex, hy, hl, gr, q⟩ hs => ?_
  subst ex
  have n8 := gr.n8
  have l14 := gr.len
  refine ws_cons (ws_setLc Fm 3 [("_law_a", 5)] (wi_range1 Fm B.range ?_))
  walk_at "w"
  refine ⟨n, rfl, by omega, by omega, by rw [rangeM_len]; omega, fun a acc m' => m' = m ++ (rowsO n f0).take a ∧ acc = (refsM m.length n).take a, ⟨by simp, by simp⟩, fun _ _ _ _ _ => trivial, ?_, ?_⟩
  · rintro a x acc m' hx ⟨rfl, rfl⟩
    obtain ⟨ha, rfl⟩ := rangeM_some hx
    have han : a < n := by omega
    rw [Int.zero_add]
    walk_at "w"
    refine L2.iteT ?_
    refine we_lc (Fm.blk _) [("_law_b", 6)] (wi_range1 (Fm.blk _) B.range ?_)
    walk_at "w"
    refine ⟨n, rfl, by omega, by omega, by rw [rangeM_len]; omega, fun b acc m2 => m ++ (rowsO n f0).take a = m2 ∧ acc = (rowM n (f0 a)).take b, ⟨rfl, by simp⟩, fun _ _ _ _ _ => trivial, ?_, ?_⟩
    · rintro b x acc m2 hx ⟨rfl, rfl⟩
      obtain ⟨hb, rfl⟩ := rangeM_some hx
      have hbn : b < n := by omega
      rw [Int.zero_add]
      walk_at "w"
      refine L2.iteT ?_
      walk_at "w"
      refine o_neI (Fam.blk (Fm.blk _) _) ⟨_, rfl, ?_⟩
      refine o_mul (.inl ⟨by decide, by decide⟩) ⟨rfl, ?_⟩
      rw [take_one (rowM_at hbn)]
      congr 4
      unfold f0
      by_cases e : a = b
      · rw [decide_eq_true (show (a : Int) = (b : Int) by omega), if_pos e]; rfl
      · rw [decide_eq_false (show ¬ (a : Int) = (b : Int) by omega), if_neg e]; rfl
    · rintro acc m2 ⟨rfl, rfl⟩
      refine .inr ⟨?_, ?_⟩
      · have er : (rowM n (f0 a)).take n = rowM n (f0 a) := List.take_of_length_le (by simp [rowM])
        rw [rangeM_len, show ((n : Int)).toNat = n by omega, er, take_app_one m (rowsO_at han)]
      · rw [take_one (refsM_at han)]
        congr 3
        simp [rowsO_len]; omega
  · rintro acc m' ⟨rfl, rfl⟩
    refine .inr ?_
    rw [rangeM_len, show ((n : Int)).toNat = n by omega]
    have e1 : (rowsO n f0).take n = rowsO n f0 := List.take_of_length_le (by rw [rowsO_len]; exact Nat.le_refl _)
    have e2 : (refsM m.length n).take n = refsM m.length n := List.take_of_length_le (by simp [refsM])
    have e3 : (m ++ rowsO n f0).length = m.length + n := by rw [List.length_append, rowsO_len]
    rw [e1, e2, e3, List.append_assoc]
    show Ws _ _ _ _ (mat m n f0) _
    -- the roads
    refine ws_cut (fun ρ' m' => ∃ (V : Tab) (u4 u5 u6 u7 u8 u9 : Option MV), ρ' = [some (.d (.int n)), some (.d (.tuple (rowsD rs))), some y, some (.r (m.length + n)), u4, u5, u6, u7, u8, u9] ∧ m' = mat m n V ∧ Done n rs us rs.length V) ?_ ?_
    · refine ws_for Fm (wi_range1 Fm B.range ?_)
      walk_at "w"
      refine ⟨_, rfl, ?_⟩
      walk_at "w"
      refine ⟨_, rfl, by omega, by simp [rowsD]; omega, fun k ρ' m' => ∃ (V : Tab) (u4 u5 u6 u7 u8 u9 : Option MV), ρ' = [some (.d (.int n)), some (.d (.tuple (rowsD rs))), some y, some (.r (m.length + n)), u4, u5, u6, u7, u8, u9] ∧ m' = mat m n V ∧ Done n rs us k V, ⟨f0, _, _, _, _, _, _, rfl, rfl, done_0⟩, fun _ _ _ _ _ => trivial, ?_, ?_⟩
      · rintro k x ρ' m' hx ⟨V, u4, u5, u6, u7, u8, u9, rfl, rfl, dn⟩
        obtain ⟨hk, rfl⟩ := rangeM_some hx
        have hkl : k < rs.length := by simpa [rowsD] using hk
        obtain ⟨r, hr⟩ : ∃ r, rs[k]? = some r := ⟨rs[k], List.getElem?_eq_getElem hkl⟩
        obtain ⟨u, hu⟩ : ∃ u, us[k]? = some u := ⟨us[k], List.getElem?_eq_getElem (by omega)⟩
        have ok := gr.row r (List.mem_of_getElem? hr)
        have ab := ok.ab
        have bn := ok.bn
        rw [Int.zero_add]
        walk_at "w"
        refine ix_w Fm rfl (atI_of (rowD_at hr) rfl) ?_
        walk_at "w"
        refine ix_w Fm (mat_seq hy) (atI_of (bls_at hu) rfl) ⟨_, rfl, ?_⟩
        cases u with
        | true =>
          refine L2.iteT ?_
          refine ws_cons (ws_asg ?_)
          walk_at "e"
          refine wg_cell Fm (a := r.a) (b := r.b) (v := (r.d : Int)) (by omega) bn ?_
          walk_at "e"
          refine ⟨rfl, rfl, ?_⟩
          walk_at "e"
          refine ⟨rfl, rfl, ?_⟩
          walk_at "e"
          refine ⟨rfl, rfl, ?_⟩
          refine ws_cons (ws_asg ?_)
          walk_at "e"
          refine wg_cell Fm (a := r.b) (b := r.a) (v := (r.d : Int)) bn (by omega) ?_
          walk_at "e"
          refine ⟨rfl, rfl, ?_⟩
          walk_at "e"
          refine ⟨rfl, rfl, ?_⟩
          walk_at "e"
          refine ⟨rfl, rfl, ?_⟩
          walk_at "w"
          exact ⟨_, _, _, _, _, _, _, rfl, rfl, done_put gr dn hr hu⟩
        | false =>
          refine L2.iteF ?_
          walk_at "w"
          exact ⟨_, _, _, _, _, _, _, rfl, rfl, done_skip dn hu⟩
      · rintro ρ' m' ⟨V, u4, u5, u6, u7, u8, u9, rfl, rfl, dn⟩
        have e : (rangeM 0 (Int.toNat (((rowsD rs).map MV.d).length : Nat))).length = rs.length := by rw [rangeM_len]; simp [rowsD]
        rw [e] at dn
        exact ⟨V, _, _, _, _, _, _, rfl, rfl, dn⟩
    · rintro ρ' m' ⟨V0, u4, u5, u6, u7, u8, u9, rfl, rfl, dn⟩
      refine ws_cut (fun ρ' m' => ∃ (V : Tab) (u4 u5 u6 u7 u8 u9 : Option MV), ρ' = [some (.d (.int n)), some (.d (.tuple (rowsD rs))), some y, some (.r (m.length + n)), u4, u5, u6, u7, u8, u9] ∧ m' = mat m n V ∧ IsW n rs us n V) ?_ ?_
      · refine ws_for Fm (wi_range1 Fm B.range ?_)
        walk_at "w"
        refine ⟨n, rfl, by omega, by omega, fun k ρ' m' => ∃ (V : Tab) (u4 u5 u6 u7 u8 u9 : Option MV), ρ' = [some (.d (.int n)), some (.d (.tuple (rowsD rs))), some y, some (.r (m.length + n)), u4, u5, u6, u7, u8, u9] ∧ m' = mat m n V ∧ IsW n rs us k V, ⟨V0, _, _, _, _, _, _, rfl, rfl, done_isW dn⟩, fun _ _ _ _ _ => trivial, ?_, ?_⟩
        · rintro k x ρ' m' hx ⟨W, u4, u5, u6, u7, u8, u9, rfl, rfl, iw⟩
          obtain ⟨hk, rfl⟩ := rangeM_some hx
          have hkn : k < n := by omega
          rw [Int.zero_add]
          walk_at "w"
          refine ws_for Fm (wi_range1 Fm B.range ?_)
          walk_at "w"
          refine ⟨n, rfl, by omega, by omega, fun a ρ' m' => ∃ (u5 u6 u7 u8 u9 : Option MV), ρ' = [some (.d (.int n)), some (.d (.tuple (rowsD rs))), some y, some (.r (m.length + n)), some (.d (.int k)), u5, u6, u7, u8, u9] ∧ m' = mat m n (mid W k a 0), ⟨_, _, _, _, _, rfl, ?_⟩, fun _ _ _ _ _ => trivial, ?_, ?_⟩
          · apply mat_congr
            intro i hi j hj
            unfold mid; rw [if_neg (by omega)]
          · rintro a x ρ' m' hx ⟨u5, u6, u7, u8, u9, rfl, rfl⟩
            obtain ⟨ha, rfl⟩ := rangeM_some hx
            have han : a < n := by omega
            rw [Int.zero_add]
            walk_at "w"
            refine ws_for Fm (wi_range1 Fm B.range ?_)
            walk_at "w"
            refine ⟨n, rfl, by omega, by omega, fun b ρ' m' => ∃ (u6 u7 u8 u9 : Option MV), ρ' = [some (.d (.int n)), some (.d (.tuple (rowsD rs))), some y, some (.r (m.length + n)), some (.d (.int k)), some (.d (.int a)), u6, u7, u8, u9] ∧ m' = mat m n (mid W k a b), ⟨_, _, _, _, rfl, rfl⟩, fun _ _ _ _ _ => trivial, ?_, ?_⟩
            · rintro b x ρ' m' hx ⟨u6, u7, u8, u9, rfl, rfl⟩
              obtain ⟨hb, rfl⟩ := rangeM_some hx
              have hbn : b < n := by omega
              rw [Int.zero_add]
              walk_at "e"
              refine ws_cons (ws_asg (b_min2 Fm B (we_cell Fm han hbn ?_)))
              walk_at "e"
              refine ⟨rfl, rfl, ?_⟩
              walk_at "e"
              refine ⟨rfl, rfl, ?_⟩
              walk_at "e"
              refine ⟨rfl, rfl, ?_⟩
              refine we_bin (we_cell Fm han hkn ?_)
              walk_at "e"
              refine ⟨rfl, rfl, ?_⟩
              walk_at "e"
              refine ⟨rfl, rfl, ?_⟩
              walk_at "e"
              refine ⟨rfl, rfl, ?_⟩
              refine we_cell Fm hkn hbn ?_
              walk_at "e"
              refine ⟨rfl, rfl, ?_⟩
              walk_at "e"
              refine ⟨rfl, rfl, ?_⟩
              walk_at "e"
              refine ⟨rfl, rfl, ?_⟩
              refine o_add ⟨_, _, rfl, rfl, ?_⟩
              refine wg_cell Fm han hbn ?_
              walk_at "e"
              refine ⟨rfl, rfl, ?_⟩
              walk_at "e"
              refine ⟨rfl, rfl, ?_⟩
              walk_at "e"
              refine ⟨rfl, rfl, ?_⟩
              walk_at "w"
              exact ⟨_, _, _, _, rfl, mat_congr (mid_step iw.w0.bd (iw.w0.diag k hkn) hkn han hbn)⟩
            · rintro ρ' m' ⟨u6, u7, u8, u9, rfl, rfl⟩
              rw [rangeM_len, show ((n : Int)).toNat = n by omega]
              walk_at "w"
              refine ⟨_, _, _, _, _, rfl, ?_⟩
              apply mat_congr
              intro i hi j hj
              unfold mid
              by_cases q : i < a ∨ (i = a ∧ j < n)
              · rw [if_pos q, if_pos (by omega)]
              · rw [if_neg q, if_neg (by omega)]
          · rintro ρ' m' ⟨u5, u6, u7, u8, u9, rfl, rfl⟩
            rw [rangeM_len, show ((n : Int)).toNat = n by omega]
            walk_at "w"
            refine ⟨stage W k, _, _, _, _, _, _, rfl, ?_, stage_ok iw hkn (ed_lt gr)⟩
            apply mat_congr
            intro i hi j hj
            unfold mid stage
            rw [if_pos (by omega)]
        · rintro ρ' m' ⟨W, u4, u5, u6, u7, u8, u9, rfl, rfl, iw⟩
          rw [rangeM_len, show ((n : Int)).toNat = n by omega] at iw
          exact ⟨W, _, _, _, _, _, _, rfl, rfl, iw⟩
      · rintro ρ' m' ⟨W, u4, u5, u6, u7, u8, u9, rfl, rfl, iw⟩
        walk_at "w"
        refine we_lc Fm [("_law_row", 9)] (wi_l Fm ?_)
        walk_at "w"
        refine ⟨_, seqOf_r (mat_out _ _ _), rfl, by simp [refsM]; omega, fun i acc m' => mat m n W = m' ∧ acc = (((List.range n).map fun i => rowT n (W i)).take i).map .d, ⟨rfl, by simp⟩, fun _ _ _ _ hI => by rw [← hI.1]; exact seqOf_r (mat_out _ _ _), ?_, ?_⟩
        · rintro i x acc m' hx ⟨rfl, rfl⟩
          have hin : i < n := by have := (List.getElem?_eq_some_iff.mp hx).1; simpa [refsM] using this
          rw [refsM_at hin] at hx
          cases hx
          walk_at "w"
          refine L2.iteT ?_
          walk_at "w"
          refine ⟨(List.range n).map fun j => PyData.int (W i j), by rw [seqOf_r (mat_row hin)]; unfold rowM; rw [List.map_map]; rfl, rfl, ?_⟩
          rw [take_range _ hin, List.map_append]
          rfl
        · rintro acc m' ⟨rfl, rfl⟩
          refine .inl ⟨(List.range n).map fun i => rowT n (W i), ?_, _, rfl, ?_⟩
          · rw [List.take_of_length_le (by simp [refsM])]
          · exact ret_drop hs trivial (q W iw)
end

end Wn
set_option Elab.async false
set_option linter.all false
set_option maxRecDepth 100000
set_option maxHeartbeats 2000000
set_option autoImplicit false
set_option pp.maxSteps 600
namespace Wn
open PySem L2
local macro_rules | `(tactic| walk_at "fam") => `(tactic| first | assumption | exact Fam.blk (by assumption) _ | exact Fam.blk (Fam.blk (by assumption) _) _)
local macro_rules | `(tactic| walk_at "at") => `(tactic| with_reducible first | exact At.z | exact At.s At.z | exact At.s (At.s At.z) | exact At.s (At.s (At.s At.z)) | exact At.s (At.s (At.s (At.s At.z))) | exact At.s (At.s (At.s (At.s (At.s At.z)))) | exact At.s (At.s (At.s (At.s (At.s (At.s At.z))))) | exact At.s (At.s (At.s (At.s (At.s (At.s (At.s At.z)))))) | exact At.s (At.s (At.s (At.s (At.s (At.s (At.s (At.s At.z))))))) | exact At.s (At.s (At.s (At.s (At.s (At.s (At.s (At.s (At.s At.z)))))))) | exact At.s (At.s (At.s (At.s (At.s (At.s (At.s (At.s (At.s (At.s At.z))))))))) | exact At.s (At.s (At.s (At.s (At.s (At.s (At.s (At.s (At.s (At.s (At.s At.z)))))))))) | exact At.s (At.s (At.s (At.s (At.s (At.s (At.s (At.s (At.s (At.s (At.s (At.s At.z))))))))))) | exact At.s (At.s (At.s (At.s (At.s (At.s (At.s (At.s (At.s (At.s (At.s (At.s (At.s At.z)))))))))))) | exact At.s (At.s (At.s (At.s (At.s (At.s (At.s (At.s (At.s (At.s (At.s (At.s (At.s (At.s At.z))))))))))))) | exact At.s (At.s (At.s (At.s (At.s (At.s (At.s (At.s (At.s (At.s (At.s (At.s (At.s (At.s (At.s At.z)))))))))))))) | exact At.s (At.s (At.s (At.s (At.s (At.s (At.s (At.s (At.s (At.s (At.s (At.s (At.s (At.s (At.s (At.s At.z))))))))))))))) | exact At.s (At.s (At.s (At.s (At.s (At.s (At.s (At.s (At.s (At.s (At.s (At.s (At.s (At.s (At.s (At.s (At.s At.z)))))))))))))))) | exact At.s (At.s (At.s (At.s (At.s (At.s (At.s (At.s (At.s (At.s (At.s (At.s (At.s (At.s (At.s (At.s (At.s (At.s At.z))))))))))))))))) | exact At.s (At.s (At.s (At.s (At.s (At.s (At.s (At.s (At.s (At.s (At.s (At.s (At.s (At.s (At.s (At.s (At.s (At.s (At.s At.z)))))))))))))))))) | exact At.s (At.s (At.s (At.s (At.s (At.s (At.s (At.s (At.s (At.s (At.s (At.s (At.s (At.s (At.s (At.s (At.s (At.s (At.s (At.s At.z))))))))))))))))))) | exact At.s (At.s (At.s (At.s (At.s (At.s (At.s (At.s (At.s (At.s (At.s (At.s (At.s (At.s (At.s (At.s (At.s (At.s (At.s (At.s (At.s At.z)))))))))))))))))))))
local macro_rules | `(tactic| walk_at "call") => `(tactic| first
  | ((with_reducible show We _ _ (.Call (.Name "len" _) _ _ _) _ _ _); refine b_len (by walk_at "fam") (by assumption) ?_)
  | ((with_reducible show We _ _ (.Call (.Name "isinstance" _) [_, .Name "int" _] _ _) _ _ _); refine b_isiInt (by walk_at "fam") (by assumption) ?_)
  | ((with_reducible show We _ _ (.Call (.Name "isinstance" _) [_, .Name "bool" _] _ _) _ _ _); refine b_isiBool (by walk_at "fam") (by assumption) ?_)
  | ((with_reducible show We _ _ (.Call (.Name "isinstance" _) [_, .Name "tuple" _] _ _) _ _ _); refine b_isiTup (by walk_at "fam") (by assumption) ?_)
  | ((with_reducible show We _ _ (.Call (.Name "abs" _) _ _ _) _ _ _); refine b_abs (by walk_at "fam") (by assumption) ?_)
  | ((with_reducible show We _ _ (.Call (.Name "int" _) _ _ _) _ _ _); refine b_intB (by walk_at "fam") (by assumption) ?_)
  | ((with_reducible show We _ _ (.Call (.Name "tuple" _) _ _ _) _ _ _); refine b_tup (by walk_at "fam") (by assumption) ?_)
  | ((with_reducible show We _ _ (.Call (.Name "list" _) [.Call (.Name "range" _) _ _ _] _ _) _ _ _); refine we_listRg (by walk_at "fam") (Bt.list (by assumption)) (Bt.range (by assumption)) ?_)
  | ((with_reducible show We _ _ (.Call (.Name "list" _) _ _ _) _ _ _); refine b_lst (by walk_at "fam") (by assumption) ?_)
  | ((with_reducible show We _ _ (.Call (.Name "min" _) [_, _] _ _) _ _ _); refine b_min2 (by walk_at "fam") (by assumption) ?_)
  | ((with_reducible show We _ _ (.Call (.Name "min" _) [_] [_] _) _ _ _); refine we_minDD (by walk_at "fam") (Bt.min (by assumption)) ?_)
  | ((with_reducible show We _ _ (.Call (.Name "min" _) [_] [] _) _ _ _); refine b_min1 (by walk_at "fam") (by assumption) ?_)
  | ((with_reducible show We _ _ (.Call (.Name "sorted" _) _ _ _) _ _ _); refine b_sorted (by walk_at "fam") (by assumption) ?_)
  | ((with_reducible show We _ _ (.Call (.Attribute _ "append" _) _ _ _) _ _ _); refine we_append (by walk_at "fam") ?_)
  | ((with_reducible show We _ _ (.Call (.Name _ _) _ _ _) _ _ _); refine we_call (by walk_at "fam") (by assumption) (by decide) ?_)
  | ((with_reducible show We _ _ (.Call (.Name _ _) _ _ _) _ _ _); refine we_make (by walk_at "fam") (by assumption) (by decide) ?_)
  | ((with_reducible show We _ _ (.Call (.Attribute _ _ _) (_ :: _) _ _) _ _ _); refine we_meth (by walk_at "fam") (by assumption) (by decide) ?_)
  | ((with_reducible show We _ _ (.Call (.Attribute _ _ _) [] _ _) _ _ _); refine we_meth0 (by walk_at "fam") (by assumption) (by decide) ?_))
local macro_rules | `(tactic| walk_at "e") => `(tactic| first
  | ((with_reducible show We _ _ (.Name _ _) _ _ _); first | refine we_varA (by walk_at "fam") (by walk_at "at") (by rfl) ?_ | refine we_gint (by walk_at "fam") (by assumption) ?_)
  | ((with_reducible show We _ _ (.Constant _ _ _) _ _ _); first | refine we_int ?_ | refine we_bl ?_ | refine we_non ?_ | refine we_str ?_)
  | ((with_reducible show We _ _ (.BinOp _ _ _ _) _ _ _); refine we_bin ?_)
  | ((with_reducible show We _ _ (.Compare _ [_] _ _) _ _ _); refine we_cmp ?_)
  | ((with_reducible show We _ _ (.Compare _ [_, _] _ _) _ _ _); refine we_chain ?_)
  | ((with_reducible show We _ _ (.BoolOp _ [_] _) _ _ _); refine we_one ?_)
  | ((with_reducible show We _ _ (.BoolOp .And _ _) _ _ _); refine we_and ?_)
  | ((with_reducible show We _ _ (.BoolOp .Or _ _) _ _ _); refine we_or ?_)
  | ((with_reducible show We _ _ (.UnaryOp .Not _ _) _ _ _); refine we_not ?_)
  | ((with_reducible show We _ _ (.IfExp _ _ _ _) _ _ _); refine we_ifExp ?_)
  | ((with_reducible show We _ _ (.Tuple _ _ _) _ _ _); refine we_tup ?_)
  | ((with_reducible show We _ _ (.List _ _) _ _ _); refine we_lst ?_)
  | ((with_reducible show We _ _ (.Subscript _ (.Slice _ _ _ _) _) _ _ _); refine we_slice (by walk_at "fam") ?_)
  | ((with_reducible show We _ _ (.Subscript _ _ _) _ _ _); refine we_ix ?_)
  | ((with_reducible show We _ _ (.Attribute _ _ _) _ _ _); refine we_fld (by walk_at "fam") ?_)
  | walk_at "call"
  | ((with_reducible show Wo _ _ none _ _ _); refine wo_none ?_)
  | ((with_reducible show Wo _ _ (some _) _ _ _); refine wo_some ?_)
  | ((with_reducible show Wr _ _ [] _ _ _); refine wr_nil ?_)
  | ((with_reducible show Wr _ _ (_ :: _) _ _ _); refine wr_cons ?_)
  | ((with_reducible show Wt _ _ (.UnaryOp .Not _ _) _ _ _); refine wt_not ?_)
  | ((with_reducible show Wt _ _ (.BoolOp .And _ _) _ _ _); refine wt_w (ww_and ?_))
  | ((with_reducible show Wt _ _ (.BoolOp .Or _ _) _ _ _); refine wt_w (ww_or ?_))
  | ((with_reducible show Wt _ _ (.Compare _ [_] _ _) _ _ _); refine wt_cmp ?_)
  | ((with_reducible show Wt _ _ _ _ _ _); refine wt_val ?_)
  | ((with_reducible show Ww _ _ (.BoolOp .And [_] _) _ _ _); refine ww_and1 ?_)
  | ((with_reducible show Ww _ _ (.BoolOp .Or [_] _) _ _ _); refine ww_or1 ?_)
  | ((with_reducible show Ww _ _ (.BoolOp .And _ _) _ _ _); refine ww_and ?_)
  | ((with_reducible show Ww _ _ (.BoolOp .Or _ _) _ _ _); refine ww_or ?_)
  | ((with_reducible show Ws _ _ [] _ _ _); refine ws_nil ?_)
  | ((with_reducible show Ws _ _ (_ :: _) _ _ _); refine ws_cons ?_)
  | ((with_reducible show Ws1 _ _ (.Return (some _) _) _ _ _); refine ws_ret ?_)
  | ((with_reducible show Ws1 _ _ (.If _ _ _ _) _ _ _); refine ws_if ?_)
  | ((with_reducible show Ws1 _ _ (.Expr _ _) _ _ _); refine ws_expr ?_)
  | ((with_reducible show Ws1 _ _ (.Assign [.Name _ _] (.ListComp _ _ _ _) _) _ _ _); fail)
  | ((with_reducible show Ws1 _ _ (.Assign [.Name _ _] _ _) _ _ _); refine ws_setA (by walk_at "fam") (by walk_at "at") ?_)
  | ((with_reducible show Ws1 _ _ (.Assign [.Attribute _ _ _] _ _) _ _ _); refine ws_fld (by walk_at "fam") ?_)
  | ((with_reducible show Ws1 _ _ (.Assign [_] _ _) _ _ _); refine ws_asg ?_)
  | ((with_reducible show Wts _ _ [] _ _ _); refine wts_nil ?_)
  | ((with_reducible show Wts _ _ [_] _ _ _); refine wts_one ?_)
  | ((with_reducible show Wg _ _ _ (.Name _ _) _ _ _ _); refine wg_nameA (by walk_at "fam") (by walk_at "at") ?_)
  | ((with_reducible show Wg _ _ _ (.Tuple _ _ _) _ _ _ _); refine wg_tup (by walk_at "fam") ?_)
  | ((with_reducible show Wg _ _ _ (.Subscript _ _ _) _ _ _ _); refine wg_sub ?_)
  | refine wgs_nil ?_ | refine wgs_cons ?_)
local macro_rules | `(tactic| walk_at "w") => `(tactic| repeat walk_at "e")
abbrev stLt : Stmt := topS 32
abbrev stLn : Stmt := topS 33
theorem scLt : FnScope ["_law_houses", "_law_roads_here", "_law_up", "_law_fars", "_law_rows", "_law_at", "_law_a", "_law_b", "_law_delay", "_law_size", "_law_k", "_law_row"] ["_law_houses", "_law_roads_here", "_law_up", "_law_fars"] (defScope stLt) := ⟨rfl, rfl, rfl, by decide +kernel, rfl, by decide +kernel, by decide +kernel⟩
theorem scLn : FnScope ["_law_roads_here", "_law_up", "_law_fars", "_law_house", "_law_other", "_law_ways", "_law_at", "_law_a", "_law_b", "_law_delay", "_law_size", "_law_there"] ["_law_roads_here", "_law_up", "_law_fars", "_law_house", "_law_other"] (defScope stLn) := ⟨rfl, rfl, rfl, by decide +kernel, rfl, by decide +kernel, by decide +kernel⟩
/-- a table behind a turn, by edges -/
def Cell (rs : List Row) (us : List Bool) (f : Tab) (S : Nat → Nat → Nat → Prop) (i j : Nat) (v : Int) : Prop := (i = j → v = 0) ∧ (i ≠ j → v ≤ 24 ∧ (∀ h d, S i h d → v ≤ d + f h j) ∧ (v = 24 ∨ ∃ h d, Ed2 rs us i h d ∧ v = d + f h j))
def IsTn (n : Nat) (rs : List Row) (us : List Bool) (f V : Tab) : Prop := ∀ i, i < n → ∀ j, j < n → Cell rs us f (Ed2 rs us) i j (V i j)
/-- edges of the roads ahead of (at, k) -/
def Ed3 (rs : List Row) (us : List Bool) (c k j : Nat) (i h d : Nat) : Prop := ∃ (l : Nat) (r : Row), rs[l]? = some r ∧ us[l]? = some true ∧ (l < c ∨ (l = c ∧ j < k)) ∧ ((i = r.a ∧ h = r.b) ∨ (i = r.b ∧ h = r.a)) ∧ d = r.d
def PT (n : Nat) (rs : List Row) (us : List Bool) (f : Tab) (c k : Nat) (V : Tab) : Prop := ∀ i, i < n → ∀ j, j < n → Cell rs us f (Ed3 rs us c k j) i j (V i j)
theorem pt_0 {n : Nat} {rs : List Row} {us : List Bool} {f : Tab} : PT n rs us f 0 0 f0 := fun i _ j _ => by
  refine ⟨fun e => by unfold f0; rw [if_pos e], fun e => ?_⟩
  have : f0 i j = 24 := by unfold f0; rw [if_neg e]
  rw [this]
  exact ⟨Int.le_refl _, fun h d ⟨l, r, _, _, q, _⟩ => by omega, .inl rfl⟩
theorem Cell.imp {rs : List Row} {us : List Bool} {f : Tab} {S S' : Nat → Nat → Nat → Prop} {i j : Nat} {v : Int} (h : Cell rs us f S i j v) (q : ∀ h d, S' i h d → S i h d) : Cell rs us f S' i j v := ⟨h.1, fun e => ⟨(h.2 e).1, fun t d z => (h.2 e).2.1 t d (q t d z), (h.2 e).2.2⟩⟩
theorem pt_next {n : Nat} {rs : List Row} {us : List Bool} {f V : Tab} {c : Nat} (h : PT n rs us f c n V) : PT n rs us f (c + 1) 0 V := fun i hi j hj => (h i hi j hj).imp fun t d ⟨l, r, h1, h2, h3, h4⟩ => ⟨l, r, h1, h2, by omega, h4⟩
theorem pt_skip {n : Nat} {rs : List Row} {us : List Bool} {f V : Tab} {c : Nat} (hu : us[c]? = some false) (h : PT n rs us f c 0 V) : PT n rs us f (c + 1) 0 V := fun i hi j hj => (h i hi j hj).imp fun t d ⟨l, r, h1, h2, h3, h4⟩ => ⟨l, r, h1, h2, by
    by_cases e : l = c
    · subst e; rw [hu] at h2; cases h2
    · omega, h4⟩
theorem pt_end {n : Nat} {rs : List Row} {us : List Bool} {f V : Tab} (h : PT n rs us f rs.length 0 V) : IsTn n rs us f V := fun i hi j hj => (h i hi j hj).imp fun t d ⟨l, r, h1, h2, h3, h4⟩ => ⟨l, r, h1, h2, .inl (List.getElem?_eq_some_iff.mp h1).1, h3, h4⟩
/-- one relaxation -/
def relax (V : Tab) (i k : Nat) (v : Int) : Tab := if k = i then V else upd2 V i k (if v < V i k then v else V i k)
theorem relax1 {n : Nat} {rs : List Row} {us : List Bool} {f V : Tab} {S : Nat → Nat → Nat → Nat → Prop} (h : ∀ i, i < n → ∀ j, j < n → Cell rs us f (S j) i j (V i j)) {i0 h0 d0 k : Nat} (e : Ed2 rs us i0 h0 d0) :
    ∀ i, i < n → ∀ j, j < n → Cell rs us f (fun i h d => S j i h d ∨ (j = k ∧ i = i0 ∧ h = h0 ∧ d = d0)) i j (relax V i0 k ((d0 : Int) + f h0 k) i j) := by
  intro i hi j hj
  have old := h i hi j hj
  unfold relax
  by_cases e1 : k = i0
  · rw [if_pos e1]
    refine ⟨old.1, fun ne => ?_⟩
    obtain ⟨o1, o2, o3⟩ := old.2 ne
    refine ⟨o1, fun t d hs => ?_, o3⟩
    rcases hs with z | ⟨z1, z2, _⟩
    · exact o2 t d z
    · exact absurd (z2.trans (e1.symm.trans z1.symm)) ne
  · rw [if_neg e1]
    by_cases q : i = i0 ∧ j = k
    · have uv : ∀ x, upd2 V i0 k x i j = x := fun x => by unfold upd2; rw [if_pos q]
      rw [uv]
      obtain ⟨rfl, rfl⟩ := q
      refine ⟨fun e2 => absurd e2.symm e1, fun ne => ?_⟩
      obtain ⟨o1, o2, o3⟩ := old.2 ne
      split
      · rename_i hlt
        refine ⟨by omega, fun t d hs => ?_, .inr ⟨_, _, e, rfl⟩⟩
        rcases hs with z | ⟨_, _, rfl, rfl⟩
        · have := o2 t d z; omega
        · exact Int.le_refl _
      · rename_i hlt
        refine ⟨o1, fun t d hs => ?_, o3⟩
        rcases hs with z | ⟨_, _, rfl, rfl⟩
        · exact o2 t d z
        · omega
    · have uv : ∀ x, upd2 V i0 k x i j = V i j := fun x => by unfold upd2; rw [if_neg q]
      rw [uv]
      refine ⟨old.1, fun ne => ?_⟩
      obtain ⟨o1, o2, o3⟩ := old.2 ne
      refine ⟨o1, fun t d hs => ?_, o3⟩
      rcases hs with z | ⟨z1, z2, _⟩
      · exact o2 t d z
      · exact absurd ⟨z2, z1⟩ q
theorem pt_step {n : Nat} {rs : List Row} {us : List Bool} {f V : Tab} {c k : Nat} {r : Row} (g : Gr n rs) (h : PT n rs us f c k V) (hr : rs[c]? = some r) (hu : us[c]? = some true) (hk : k < n) :
    PT n rs us f c (k + 1) (relax (relax V r.a k (r.d + f r.b k)) r.b k (r.d + f r.a k)) := by
  have ea : Ed2 rs us r.a r.b r.d := ⟨c, r, hr, hu, .inl ⟨rfl, rfl⟩, rfl⟩
  have eb : Ed2 rs us r.b r.a r.d := ⟨c, r, hr, hu, .inr ⟨rfl, rfl⟩, rfl⟩
  have s1 := relax1 (S := fun j => Ed3 rs us c k j) (k := k) h ea
  have s2 := relax1 (S := fun j i h d => Ed3 rs us c k j i h d ∨ (j = k ∧ i = r.a ∧ h = r.b ∧ d = r.d)) (k := k) s1 eb
  intro i hi j hj
  refine (s2 i hi j hj).imp ?_
  rintro t d ⟨l, q, h1, h2, h3, h4, h5⟩
  by_cases e : l = c ∧ j = k
  · obtain ⟨rfl, rfl⟩ := e
    rw [hr] at h1; cases h1
    rcases h4 with ⟨rfl, rfl⟩ | ⟨rfl, rfl⟩
    · exact .inl (.inr ⟨rfl, rfl, rfl, h5⟩)
    · exact .inr ⟨rfl, rfl, rfl, h5⟩
  · exact .inl (.inl ⟨l, q, h1, h2, by omega, h4, h5⟩)
def sLt (xs : List MV) (m : Mm) (Q : QV) : Prop := ∃ (n : Nat) (rs : List Row) (y : MV) (us : List Bool) (f : Tab), xs = [.d (.int n), .d (.tuple (rowsD rs)), y, .d (tabD n f)] ∧ seqOf m y = some (blsD us) ∧ us.length = rs.length ∧ Gr n rs ∧ ∀ V, IsTn n rs us f V → Q (.d (tabD n V)) m
section
variable {P : Program} {w : World} {K : PySem.W.Frag} {mg : Str → Option Value} {base : Heap} {f : Addr} {fd : FuncData}
/-- fars[a][b] of a table of data, read -/
theorem we_tcell {ι : Type} {X : ι → Cx} {N : List Str} {sc : Scope} {fv : Str → Bool} {k : Nat} {ρ : Ro} {m : Mm} {n a b : Nat} {W : Tab} {Q : QV} {eo ea eb : Expr} {p1 p2 : Pos} (F : Fam X P w K mg base N sc fv k) (ha : a < n) (hb : b < n)
    (h : We X K eo ρ m fun x m1 => x = .d (tabD n W) ∧ m1 = m ∧ We X K ea ρ m fun y m2 => y = .d (.int a) ∧ m2 = m ∧ We X K eb ρ m fun z m3 => z = .d (.int b) ∧ m3 = m ∧ Q (.d (.int (W a b))) m)
    (h1 : PlainIx ea := by intro _ _; rfl) (h2 : PlainIx eb := by intro _ _; rfl) : We X K (.Subscript (.Subscript eo ea p1) eb p2) ρ m Q := by
  refine we_ix (we_ix (h.mono ?_) h1) h2
  rintro x m1 ⟨rfl, rfl, h⟩
  refine h.mono ?_
  rintro y m2 ⟨rfl, rfl, h⟩
  refine ix_w F (tab_seq _ n W) (atI_of (tab_at W ha) rfl) (h.mono ?_)
  rintro z m3 ⟨rfl, rfl, q⟩
  exact ix_w F rfl (atI_of (row_at (W a) hb) rfl) q
theorem ok_lt (F : Fun K "_law_turned" "_law_turned" stLt f fd) (B : Bt mg) : FnOk P w K mg base CX0 1 f fd ["_law_houses", "_law_roads_here", "_law_up", "_law_fars"] (spM K sLt) := by
  refine fn_m F scLt (fun xs m Q h => by obtain ⟨_, _, _, _, _, rfl, _⟩ := h; rfl) fun X Fm xs m Q ⟨n, rs, y, us, f, ex, hy, hl, gr, q⟩ hs => ?_
  subst ex
  have n8 := gr.n8
  have l14 := gr.len
  refine ws_cons (ws_setLc Fm 4 [("_law_a", 6)] (wi_range1 Fm B.range ?_))
  walk_at "w"
  refine ⟨n, rfl, by omega, by omega, by rw [rangeM_len]; omega, fun a acc m' => m' = m ++ (rowsO n f0).take a ∧ acc = (refsM m.length n).take a, ⟨by simp, by simp⟩, fun _ _ _ _ _ => trivial, ?_, ?_⟩
  · rintro a x acc m' hx ⟨rfl, rfl⟩
    obtain ⟨ha, rfl⟩ := rangeM_some hx
    have han : a < n := by omega
    rw [Int.zero_add]
    walk_at "w"
    refine L2.iteT ?_
    refine we_lc (Fm.blk _) [("_law_b", 7)] (wi_range1 (Fm.blk _) B.range ?_)
    walk_at "w"
    refine ⟨n, rfl, by omega, by omega, by rw [rangeM_len]; omega, fun b acc m2 => m ++ (rowsO n f0).take a = m2 ∧ acc = (rowM n (f0 a)).take b, ⟨rfl, by simp⟩, fun _ _ _ _ _ => trivial, ?_, ?_⟩
    · rintro b x acc m2 hx ⟨rfl, rfl⟩
      obtain ⟨hb, rfl⟩ := rangeM_some hx
      have hbn : b < n := by omega
      rw [Int.zero_add]
      walk_at "w"
      refine L2.iteT ?_
      walk_at "w"
      refine o_neI (Fam.blk (Fm.blk _) _) ⟨_, rfl, ?_⟩
      refine o_mul (.inl ⟨by decide, by decide⟩) ⟨rfl, ?_⟩
      rw [take_one (rowM_at hbn)]
      congr 4
      unfold f0
      by_cases e : a = b
      · rw [decide_eq_true (show (a : Int) = (b : Int) by omega), if_pos e]; rfl
      · rw [decide_eq_false (show ¬ (a : Int) = (b : Int) by omega), if_neg e]; rfl
    · rintro acc m2 ⟨rfl, rfl⟩
      refine .inr ⟨?_, ?_⟩
      · have er : (rowM n (f0 a)).take n = rowM n (f0 a) := List.take_of_length_le (by simp [rowM])
        rw [rangeM_len, show ((n : Int)).toNat = n by omega, er, take_app_one m (rowsO_at han)]
      · rw [take_one (refsM_at han)]
        congr 3
        simp [rowsO_len]; omega
  · rintro acc m' ⟨rfl, rfl⟩
    refine .inr ?_
    rw [rangeM_len, show ((n : Int)).toNat = n by omega]
    have e1 : (rowsO n f0).take n = rowsO n f0 := List.take_of_length_le (by rw [rowsO_len]; exact Nat.le_refl _)
    have e2 : (refsM m.length n).take n = refsM m.length n := List.take_of_length_le (by simp [refsM])
    have e3 : (m ++ rowsO n f0).length = m.length + n := by rw [List.length_append, rowsO_len]
    rw [e1, e2, e3, List.append_assoc]
    show Ws _ _ _ _ (mat m n f0) _
    refine ws_cut (fun ρ' m' => ∃ (V : Tab) (u5 u6 u7 u8 u9 u10 u11 : Option MV), ρ' = [some (.d (.int n)), some (.d (.tuple (rowsD rs))), some y, some (.d (tabD n f)), some (.r (m.length + n)), u5, u6, u7, u8, u9, u10, u11] ∧ m' = mat m n V ∧ PT n rs us f rs.length 0 V) ?_ ?_
    · refine ws_for Fm (wi_range1 Fm B.range ?_)
      walk_at "w"
      refine ⟨_, rfl, ?_⟩
      walk_at "w"
      refine ⟨_, rfl, by omega, by simp [rowsD]; omega, fun c ρ' m' => ∃ (V : Tab) (u5 u6 u7 u8 u9 u10 u11 : Option MV), ρ' = [some (.d (.int n)), some (.d (.tuple (rowsD rs))), some y, some (.d (tabD n f)), some (.r (m.length + n)), u5, u6, u7, u8, u9, u10, u11] ∧ m' = mat m n V ∧ PT n rs us f c 0 V, ⟨f0, _, _, _, _, _, _, _, rfl, rfl, pt_0⟩, fun _ _ _ _ _ => trivial, ?_, ?_⟩
      · rintro c x ρ' m' hx ⟨V, u5, u6, u7, u8, u9, u10, u11, rfl, rfl, pt⟩
        obtain ⟨hk, rfl⟩ := rangeM_some hx
        have hkl : c < rs.length := by simpa [rowsD] using hk
        obtain ⟨r, hr⟩ : ∃ r, rs[c]? = some r := ⟨rs[c], List.getElem?_eq_getElem hkl⟩
        obtain ⟨u, hu⟩ : ∃ u, us[c]? = some u := ⟨us[c], List.getElem?_eq_getElem (by omega)⟩
        have ok := gr.row r (List.mem_of_getElem? hr)
        have ab := ok.ab
        have bn := ok.bn
        rw [Int.zero_add]
        walk_at "w"
        refine ix_w Fm rfl (atI_of (rowD_at hr) rfl) ?_
        walk_at "w"
        refine ws_for Fm (wi_range1 Fm B.range ?_)
        walk_at "w"
        refine ix_w Fm (mat_seq hy) (atI_of (bls_at hu) rfl) ⟨_, rfl, ?_⟩
        refine o_mul (.inl ⟨by omega, by omega⟩) ?_
        walk_at "w"
        refine ⟨_, rfl, by cases u <;> simp <;> omega, by cases u <;> simp <;> omega, fun k ρ' m' => ∃ (V : Tab) (u10 u11 : Option MV), ρ' = [some (.d (.int n)), some (.d (.tuple (rowsD rs))), some y, some (.d (tabD n f)), some (.r (m.length + n)), some (.d (.int c)), some (.d (.int r.a)), some (.d (.int r.b)), some (.d (.int r.d)), some (.d (.int r.s)), u10, u11] ∧ m' = mat m n V ∧ PT n rs us f c k V, ⟨V, _, _, rfl, rfl, pt⟩, fun _ _ _ _ _ => trivial, ?_, ?_⟩
        · rintro k x ρ' m' hx ⟨V, u10, u11, rfl, rfl, pt⟩
          obtain ⟨hk, rfl⟩ := rangeM_some hx
          cases u with
          | false => exact absurd hk (by simp)
          | true =>
            have hkn : k < n := by simp at hk; omega
            rw [Int.zero_add]
            walk_at "e"
            refine ws_cut (fun ρ' m' => ∃ (u11 : Option MV), ρ' = [some (.d (.int n)), some (.d (.tuple (rowsD rs))), some y, some (.d (tabD n f)), some (.r (m.length + n)), some (.d (.int c)), some (.d (.int r.a)), some (.d (.int r.b)), some (.d (.int r.d)), some (.d (.int r.s)), some (.d (.int k)), u11] ∧ m' = mat m n (relax V r.a k (r.d + f r.b k))) ?_ ?_
            · walk_at "w"
              refine o_neI Fm ⟨_, rfl, ?_⟩
              by_cases e : k = r.a
              · rw [decide_eq_true (show (k : Int) = (r.a : Int) by omega)]
                refine L2.iteF ?_
                walk_at "w"
                refine ⟨_, rfl, ?_⟩
                unfold relax
                rw [if_pos e]
              · rw [decide_eq_false (show ¬ (k : Int) = (r.a : Int) by omega)]
                refine L2.iteT ?_
                refine ws_cons (ws_asg (b_min2 Fm B (we_cell Fm (a := r.a) (b := k) (by omega) hkn ?_)))
                walk_at "e"
                refine ⟨rfl, rfl, ?_⟩
                walk_at "e"
                refine ⟨rfl, rfl, ?_⟩
                walk_at "e"
                refine ⟨rfl, rfl, ?_⟩
                refine we_bin ?_
                walk_at "e"
                refine we_tcell Fm (W := f) (a := r.b) (b := k) bn hkn ?_
                walk_at "e"
                refine ⟨rfl, rfl, ?_⟩
                walk_at "e"
                refine ⟨rfl, rfl, ?_⟩
                walk_at "e"
                refine ⟨rfl, rfl, ?_⟩
                refine o_add ⟨_, _, rfl, rfl, ?_⟩
                refine wg_cell Fm (a := r.a) (b := k) (by omega) hkn ?_
                walk_at "e"
                refine ⟨rfl, rfl, ?_⟩
                walk_at "e"
                refine ⟨rfl, rfl, ?_⟩
                walk_at "e"
                refine ⟨rfl, rfl, ?_⟩
                walk_at "w"
                refine ⟨_, rfl, ?_⟩
                unfold relax
                rw [if_neg e]
            · rintro ρ' m' ⟨u11, rfl, rfl⟩
              generalize hV1 : relax V r.a k (r.d + f r.b k) = V1
              walk_at "w"
              refine o_neI Fm ⟨_, rfl, ?_⟩
              by_cases e : k = r.b
              · rw [decide_eq_true (show (k : Int) = (r.b : Int) by omega)]
                refine L2.iteF ?_
                walk_at "w"
                refine ⟨V1, _, _, rfl, rfl, ?_⟩
                have := pt_step gr pt hr hu hkn
                rw [hV1] at this
                unfold relax at this
                rw [if_pos e] at this
                exact this
              · rw [decide_eq_false (show ¬ (k : Int) = (r.b : Int) by omega)]
                refine L2.iteT ?_
                refine ws_cons (ws_asg (b_min2 Fm B (we_cell Fm (a := r.b) (b := k) bn hkn ?_)))
                walk_at "e"
                refine ⟨rfl, rfl, ?_⟩
                walk_at "e"
                refine ⟨rfl, rfl, ?_⟩
                walk_at "e"
                refine ⟨rfl, rfl, ?_⟩
                refine we_bin ?_
                walk_at "e"
                refine we_tcell Fm (W := f) (a := r.a) (b := k) (by omega) hkn ?_
                walk_at "e"
                refine ⟨rfl, rfl, ?_⟩
                walk_at "e"
                refine ⟨rfl, rfl, ?_⟩
                walk_at "e"
                refine ⟨rfl, rfl, ?_⟩
                refine o_add ⟨_, _, rfl, rfl, ?_⟩
                refine wg_cell Fm (a := r.b) (b := k) bn hkn ?_
                walk_at "e"
                refine ⟨rfl, rfl, ?_⟩
                walk_at "e"
                refine ⟨rfl, rfl, ?_⟩
                walk_at "e"
                refine ⟨rfl, rfl, ?_⟩
                walk_at "w"
                refine ⟨_, _, _, rfl, rfl, ?_⟩
                have := pt_step gr pt hr hu hkn
                rw [hV1] at this
                unfold relax at this
                rw [if_neg e] at this
                exact this
        · rintro ρ' m' ⟨V, u10, u11, rfl, rfl, pt⟩
          walk_at "w"
          refine ⟨V, _, _, _, _, _, _, _, rfl, rfl, ?_⟩
          rw [rangeM_len] at pt
          cases u with
          | true =>
            have e : ((n : Int) * (if true then 1 else 0)).toNat = n := by simp
            rw [e] at pt
            exact pt_next pt
          | false =>
            have e : ((n : Int) * (if false then 1 else 0)).toNat = 0 := by simp
            rw [e] at pt
            exact pt_skip hu pt
      · rintro ρ' m' ⟨V, u5, u6, u7, u8, u9, u10, u11, rfl, rfl, pt⟩
        have e : (rangeM 0 (Int.toNat (((rowsD rs).map MV.d).length : Nat))).length = rs.length := by rw [rangeM_len]; simp [rowsD]
        rw [e] at pt
        exact ⟨V, _, _, _, _, _, _, _, rfl, rfl, pt⟩
    · rintro ρ' m' ⟨W, u5, u6, u7, u8, u9, u10, u11, rfl, rfl, pt⟩
      walk_at "w"
      refine we_lc Fm [("_law_row", 11)] (wi_l Fm ?_)
      walk_at "w"
      refine ⟨_, seqOf_r (mat_out _ _ _), rfl, by simp [refsM]; omega, fun i acc m' => mat m n W = m' ∧ acc = (((List.range n).map fun i => rowT n (W i)).take i).map .d, ⟨rfl, by simp⟩, fun _ _ _ _ hI => by rw [← hI.1]; exact seqOf_r (mat_out _ _ _), ?_, ?_⟩
      · rintro i x acc m' hx ⟨rfl, rfl⟩
        have hin : i < n := by have := (List.getElem?_eq_some_iff.mp hx).1; simpa [refsM] using this
        rw [refsM_at hin] at hx
        cases hx
        walk_at "w"
        refine L2.iteT ?_
        walk_at "w"
        refine ⟨(List.range n).map fun j => PyData.int (W i j), by rw [seqOf_r (mat_row hin)]; unfold rowM; rw [List.map_map]; rfl, rfl, ?_⟩
        rw [take_range _ hin, List.map_append]
        rfl
      · rintro acc m' ⟨rfl, rfl⟩
        refine .inl ⟨(List.range n).map fun i => rowT n (W i), ?_, _, rfl, ?_⟩
        · rw [List.take_of_length_le (by simp [refsM])]
        · exact ret_drop hs trivial (q W (pt_end pt))
end

end Wn
set_option Elab.async false
set_option linter.all false
set_option maxRecDepth 100000
set_option maxHeartbeats 2000000
set_option autoImplicit false
set_option pp.maxSteps 600
namespace Wn
open PySem L2
local macro_rules | `(tactic| walk_at "fam") => `(tactic| first | assumption | exact Fam.blk (by assumption) _ | exact Fam.blk (Fam.blk (by assumption) _) _)
local macro_rules | `(tactic| walk_at "at") => `(tactic| with_reducible first | exact At.z | exact At.s At.z | exact At.s (At.s At.z) | exact At.s (At.s (At.s At.z)) | exact At.s (At.s (At.s (At.s At.z))) | exact At.s (At.s (At.s (At.s (At.s At.z)))) | exact At.s (At.s (At.s (At.s (At.s (At.s At.z))))) | exact At.s (At.s (At.s (At.s (At.s (At.s (At.s At.z)))))) | exact At.s (At.s (At.s (At.s (At.s (At.s (At.s (At.s At.z))))))) | exact At.s (At.s (At.s (At.s (At.s (At.s (At.s (At.s (At.s At.z)))))))) | exact At.s (At.s (At.s (At.s (At.s (At.s (At.s (At.s (At.s (At.s At.z))))))))) | exact At.s (At.s (At.s (At.s (At.s (At.s (At.s (At.s (At.s (At.s (At.s At.z)))))))))) | exact At.s (At.s (At.s (At.s (At.s (At.s (At.s (At.s (At.s (At.s (At.s (At.s At.z))))))))))) | exact At.s (At.s (At.s (At.s (At.s (At.s (At.s (At.s (At.s (At.s (At.s (At.s (At.s At.z)))))))))))) | exact At.s (At.s (At.s (At.s (At.s (At.s (At.s (At.s (At.s (At.s (At.s (At.s (At.s (At.s At.z))))))))))))) | exact At.s (At.s (At.s (At.s (At.s (At.s (At.s (At.s (At.s (At.s (At.s (At.s (At.s (At.s (At.s At.z)))))))))))))) | exact At.s (At.s (At.s (At.s (At.s (At.s (At.s (At.s (At.s (At.s (At.s (At.s (At.s (At.s (At.s (At.s At.z))))))))))))))) | exact At.s (At.s (At.s (At.s (At.s (At.s (At.s (At.s (At.s (At.s (At.s (At.s (At.s (At.s (At.s (At.s (At.s At.z)))))))))))))))) | exact At.s (At.s (At.s (At.s (At.s (At.s (At.s (At.s (At.s (At.s (At.s (At.s (At.s (At.s (At.s (At.s (At.s (At.s At.z))))))))))))))))) | exact At.s (At.s (At.s (At.s (At.s (At.s (At.s (At.s (At.s (At.s (At.s (At.s (At.s (At.s (At.s (At.s (At.s (At.s (At.s At.z)))))))))))))))))) | exact At.s (At.s (At.s (At.s (At.s (At.s (At.s (At.s (At.s (At.s (At.s (At.s (At.s (At.s (At.s (At.s (At.s (At.s (At.s (At.s At.z))))))))))))))))))) | exact At.s (At.s (At.s (At.s (At.s (At.s (At.s (At.s (At.s (At.s (At.s (At.s (At.s (At.s (At.s (At.s (At.s (At.s (At.s (At.s (At.s At.z)))))))))))))))))))))
local macro_rules | `(tactic| walk_at "call") => `(tactic| first
  | ((with_reducible show We _ _ (.Call (.Name "len" _) _ _ _) _ _ _); refine b_len (by walk_at "fam") (by assumption) ?_)
  | ((with_reducible show We _ _ (.Call (.Name "isinstance" _) [_, .Name "int" _] _ _) _ _ _); refine b_isiInt (by walk_at "fam") (by assumption) ?_)
  | ((with_reducible show We _ _ (.Call (.Name "isinstance" _) [_, .Name "bool" _] _ _) _ _ _); refine b_isiBool (by walk_at "fam") (by assumption) ?_)
  | ((with_reducible show We _ _ (.Call (.Name "isinstance" _) [_, .Name "tuple" _] _ _) _ _ _); refine b_isiTup (by walk_at "fam") (by assumption) ?_)
  | ((with_reducible show We _ _ (.Call (.Name "abs" _) _ _ _) _ _ _); refine b_abs (by walk_at "fam") (by assumption) ?_)
  | ((with_reducible show We _ _ (.Call (.Name "int" _) _ _ _) _ _ _); refine b_intB (by walk_at "fam") (by assumption) ?_)
  | ((with_reducible show We _ _ (.Call (.Name "tuple" _) _ _ _) _ _ _); refine b_tup (by walk_at "fam") (by assumption) ?_)
  | ((with_reducible show We _ _ (.Call (.Name "list" _) [.Call (.Name "range" _) _ _ _] _ _) _ _ _); refine we_listRg (by walk_at "fam") (Bt.list (by assumption)) (Bt.range (by assumption)) ?_)
  | ((with_reducible show We _ _ (.Call (.Name "list" _) _ _ _) _ _ _); refine b_lst (by walk_at "fam") (by assumption) ?_)
  | ((with_reducible show We _ _ (.Call (.Name "min" _) [_, _] _ _) _ _ _); refine b_min2 (by walk_at "fam") (by assumption) ?_)
  | ((with_reducible show We _ _ (.Call (.Name "min" _) [_] [_] _) _ _ _); refine we_minDD (by walk_at "fam") (Bt.min (by assumption)) ?_)
  | ((with_reducible show We _ _ (.Call (.Name "min" _) [_] [] _) _ _ _); refine b_min1 (by walk_at "fam") (by assumption) ?_)
  | ((with_reducible show We _ _ (.Call (.Name "sorted" _) _ _ _) _ _ _); refine b_sorted (by walk_at "fam") (by assumption) ?_)
  | ((with_reducible show We _ _ (.Call (.Attribute _ "append" _) _ _ _) _ _ _); refine we_append (by walk_at "fam") ?_)
  | ((with_reducible show We _ _ (.Call (.Name _ _) _ _ _) _ _ _); refine we_call (by walk_at "fam") (by assumption) (by decide) ?_)
  | ((with_reducible show We _ _ (.Call (.Name _ _) _ _ _) _ _ _); refine we_make (by walk_at "fam") (by assumption) (by decide) ?_)
  | ((with_reducible show We _ _ (.Call (.Attribute _ _ _) (_ :: _) _ _) _ _ _); refine we_meth (by walk_at "fam") (by assumption) (by decide) ?_)
  | ((with_reducible show We _ _ (.Call (.Attribute _ _ _) [] _ _) _ _ _); refine we_meth0 (by walk_at "fam") (by assumption) (by decide) ?_))
local macro_rules | `(tactic| walk_at "e") => `(tactic| first
  | ((with_reducible show We _ _ (.Name _ _) _ _ _); first | refine we_varA (by walk_at "fam") (by walk_at "at") (by rfl) ?_ | refine we_gint (by walk_at "fam") (by assumption) ?_)
  | ((with_reducible show We _ _ (.Constant _ _ _) _ _ _); first | refine we_int ?_ | refine we_bl ?_ | refine we_non ?_ | refine we_str ?_)
  | ((with_reducible show We _ _ (.BinOp _ _ _ _) _ _ _); refine we_bin ?_)
  | ((with_reducible show We _ _ (.Compare _ [_] _ _) _ _ _); refine we_cmp ?_)
  | ((with_reducible show We _ _ (.Compare _ [_, _] _ _) _ _ _); refine we_chain ?_)
  | ((with_reducible show We _ _ (.BoolOp _ [_] _) _ _ _); refine we_one ?_)
  | ((with_reducible show We _ _ (.BoolOp .And _ _) _ _ _); refine we_and ?_)
  | ((with_reducible show We _ _ (.BoolOp .Or _ _) _ _ _); refine we_or ?_)
  | ((with_reducible show We _ _ (.UnaryOp .Not _ _) _ _ _); refine we_not ?_)
  | ((with_reducible show We _ _ (.IfExp _ _ _ _) _ _ _); refine we_ifExp ?_)
  | ((with_reducible show We _ _ (.Tuple _ _ _) _ _ _); refine we_tup ?_)
  | ((with_reducible show We _ _ (.List _ _) _ _ _); refine we_lst ?_)
  | ((with_reducible show We _ _ (.Subscript _ (.Slice _ _ _ _) _) _ _ _); refine we_slice (by walk_at "fam") ?_)
  | ((with_reducible show We _ _ (.Subscript _ _ _) _ _ _); refine we_ix ?_)
  | ((with_reducible show We _ _ (.Attribute _ _ _) _ _ _); refine we_fld (by walk_at "fam") ?_)
  | walk_at "call"
  | ((with_reducible show Wo _ _ none _ _ _); refine wo_none ?_)
  | ((with_reducible show Wo _ _ (some _) _ _ _); refine wo_some ?_)
  | ((with_reducible show Wr _ _ [] _ _ _); refine wr_nil ?_)
  | ((with_reducible show Wr _ _ (_ :: _) _ _ _); refine wr_cons ?_)
  | ((with_reducible show Wt _ _ (.UnaryOp .Not _ _) _ _ _); refine wt_not ?_)
  | ((with_reducible show Wt _ _ (.BoolOp .And _ _) _ _ _); refine wt_w (ww_and ?_))
  | ((with_reducible show Wt _ _ (.BoolOp .Or _ _) _ _ _); refine wt_w (ww_or ?_))
  | ((with_reducible show Wt _ _ (.Compare _ [_] _ _) _ _ _); refine wt_cmp ?_)
  | ((with_reducible show Wt _ _ _ _ _ _); refine wt_val ?_)
  | ((with_reducible show Ww _ _ (.BoolOp .And [_] _) _ _ _); refine ww_and1 ?_)
  | ((with_reducible show Ww _ _ (.BoolOp .Or [_] _) _ _ _); refine ww_or1 ?_)
  | ((with_reducible show Ww _ _ (.BoolOp .And _ _) _ _ _); refine ww_and ?_)
  | ((with_reducible show Ww _ _ (.BoolOp .Or _ _) _ _ _); refine ww_or ?_)
  | ((with_reducible show Ws _ _ [] _ _ _); refine ws_nil ?_)
  | ((with_reducible show Ws _ _ (_ :: _) _ _ _); refine ws_cons ?_)
  | ((with_reducible show Ws1 _ _ (.Return (some _) _) _ _ _); refine ws_ret ?_)
  | ((with_reducible show Ws1 _ _ (.If _ _ _ _) _ _ _); refine ws_if ?_)
  | ((with_reducible show Ws1 _ _ (.Expr _ _) _ _ _); refine ws_expr ?_)
  | ((with_reducible show Ws1 _ _ (.Assign [.Name _ _] (.ListComp _ _ _ _) _) _ _ _); fail)
  | ((with_reducible show Ws1 _ _ (.Assign [.Name _ _] _ _) _ _ _); refine ws_setA (by walk_at "fam") (by walk_at "at") ?_)
  | ((with_reducible show Ws1 _ _ (.Assign [.Attribute _ _ _] _ _) _ _ _); refine ws_fld (by walk_at "fam") ?_)
  | ((with_reducible show Ws1 _ _ (.Assign [_] _ _) _ _ _); refine ws_asg ?_)
  | ((with_reducible show Wts _ _ [] _ _ _); refine wts_nil ?_)
  | ((with_reducible show Wts _ _ [_] _ _ _); refine wts_one ?_)
  | ((with_reducible show Wg _ _ _ (.Name _ _) _ _ _ _); refine wg_nameA (by walk_at "fam") (by walk_at "at") ?_)
  | ((with_reducible show Wg _ _ _ (.Tuple _ _ _) _ _ _ _); refine wg_tup (by walk_at "fam") ?_)
  | ((with_reducible show Wg _ _ _ (.Subscript _ _ _) _ _ _ _); refine wg_sub ?_)
  | refine wgs_nil ?_ | refine wgs_cons ?_)
local macro_rules | `(tactic| walk_at "w") => `(tactic| repeat walk_at "e")
abbrev stLs : Stmt := topS 34
theorem scLs : FnScope ["_law_known", "_law_houses", "_law_roads_here", "_law_up", "_law_fars", "_law_house", "_law_other", "_law_due"] ["_law_known", "_law_houses", "_law_roads_here", "_law_up", "_law_fars"] (defScope stLs) := ⟨rfl, rfl, rfl, by decide +kernel, rfl, by decide +kernel, by decide +kernel⟩
/-! the mathematics -/
theorem near_ed {n : Nat} {rs : List Row} {us : List Bool} (g : Gr n rs) {i : Nat} : (∀ t ∈ near i rs us, Ed2 rs us i t.h t.d) ∧ ∀ h d, Ed2 rs us i h d → ∃ t ∈ near i rs us, t.h = h ∧ t.d = d := by
  constructor
  · intro t ht
    obtain ⟨k, r, hr, hu, q⟩ := near_mem.mp ht
    rcases q with ⟨e, rfl⟩ | ⟨_, e, rfl⟩
    · exact ⟨k, r, hr, hu, .inl ⟨e.symm, rfl⟩, rfl⟩
    · exact ⟨k, r, hr, hu, .inr ⟨e.symm, rfl⟩, rfl⟩
  · rintro h d ⟨k, r, hr, hu, q, rfl⟩
    have ab := (g.row r (List.mem_of_getElem? hr)).ab
    rcases q with ⟨rfl, rfl⟩ | ⟨rfl, rfl⟩
    · exact ⟨⟨r.b, r.d, r.s⟩, near_mem.mpr ⟨k, r, hr, hu, .inl ⟨rfl, rfl⟩⟩, rfl, rfl⟩
    · exact ⟨⟨r.a, r.d, r.s⟩, near_mem.mpr ⟨k, r, hr, hu, .inr ⟨by omega, rfl, rfl⟩⟩, rfl, rfl⟩
theorem cell_Tn {n : Nat} {rs : List Row} {us : List Bool} {g : Nat → List Tri} (gr : Gr n rs) (hg : ∀ h, h < n → (g h).Perm (near h rs us)) (f : Tab) : IsTn n rs us f (Tn g f) := by
  intro i hi j hj
  unfold Tn tfv
  refine ⟨fun e => by rw [if_pos e], fun e => ?_⟩
  rw [if_neg e]
  obtain ⟨h1, h2⟩ := near_ed (us := us) gr (i := i)
  refine ⟨foldl_min_le _ _, fun h d he => ?_, ?_⟩
  · obtain ⟨t, ht, rfl, rfl⟩ := h2 h d he
    exact foldl_min_mem _ 24 _ (List.mem_map.mpr ⟨t, (hg i hi).mem_iff.mpr ht, rfl⟩)
  · rcases foldl_min_in ((g i).map fun t => (t.d : Int) + f t.h j) 24 with q | q
    · exact .inl q
    · obtain ⟨t, ht, e2⟩ := List.mem_map.mp q
      exact .inr ⟨t.h, t.d, h1 t ((hg i hi).mem_iff.mp ht), e2.symm⟩
theorem cell_uniq {rs : List Row} {us : List Bool} {f : Tab} {i j : Nat} {v v' : Int} (h : Cell rs us f (Ed2 rs us) i j v) (h' : Cell rs us f (Ed2 rs us) i j v') : v = v' := by
  by_cases e : i = j
  · rw [h.1 e, h'.1 e]
  · obtain ⟨a1, a2, a3⟩ := h.2 e
    obtain ⟨b1, b2, b3⟩ := h'.2 e
    apply Int.le_antisymm
    · rcases b3 with rfl | ⟨t, d, he, rfl⟩
      · exact a1
      · exact a2 t d he
    · rcases a3 with rfl | ⟨t, d, he, rfl⟩
      · exact b1
      · exact b2 t d he
theorem isTn_same {n : Nat} {rs : List Row} {us : List Bool} {g : Nat → List Tri} (gr : Gr n rs) (hg : ∀ h, h < n → (g h).Perm (near h rs us)) {f V : Tab} (h : IsTn n rs us f V) : Same2 n V (Tn g f) := fun i hi j hj => cell_uniq (h i hi j hj) (cell_Tn gr hg f i hi j hj)
theorem fix_isW {n : Nat} {rs : List Row} {us : List Bool} {g : Nat → List Tri} (gr : Gr n rs) (hg : ∀ h, h < n → (g h).Perm (near h rs us)) {f W : Tab} (fx : Fix n g f) (iw : IsW n rs us n W) : Same2 n f W := by
  have c : ∀ i, i < n → ∀ j, j < n → Cell rs us f (Ed2 rs us) i j (f i j) := fun i hi j hj => by
    have := cell_Tn gr hg f i hi j hj
    rw [fx.fx i hi j hj] at this
    exact this
  have el := ed_lt (us := us) gr
  have ed1 : ∀ i h d, Ed2 rs us i h d → 1 ≤ d ∧ i ≠ h := fun i h d ⟨k, r, hr, _, q, e⟩ => by
    have ok := gr.row r (List.mem_of_getElem? hr)
    have := ok.ab; have := ok.d1
    rcases q with ⟨rfl, rfl⟩ | ⟨rfl, rfl⟩ <;> omega
  have tri : ∀ (m i j k : Nat), i < n → j < n → k < n → (f i k).toNat ≤ m → f i j ≤ f i k + f k j := by
    intro m
    induction m with
    | zero =>
      intro i j k hi hj hk hm
      have b := fx.bd i hi k hk
      by_cases e : i = k
      · subst e; have := (c i hi i hi).1 rfl; omega
      · obtain ⟨_, _, q⟩ := (c i hi k hk).2 e
        rcases q with q | ⟨h, d, he, q⟩
        · omega
        · have := (ed1 i h d he).1
          have := (fx.bd h (el i h d he).2 k hk).1
          omega
    | succ m ih =>
      intro i j k hi hj hk hm
      have b := fx.bd i hi k hk
      have bj := fx.bd i hi j hj
      have bkj := fx.bd k hk j hj
      by_cases e : i = k
      · subst e; have := (c i hi i hi).1 rfl; omega
      · obtain ⟨_, _, q⟩ := (c i hi k hk).2 e
        rcases q with q | ⟨h, d, he, q⟩
        · omega
        · have hd := (ed1 i h d he).1
          have hh := (el i h d he).2
          have bh := fx.bd h hh k hk
          have t := ih h j k hh hj hk (by omega)
          by_cases e2 : i = j
          · have := (c i hi j hj).1 e2; omega
          · have := ((c i hi j hj).2 e2).2.1 h d he
            omega
  have low : Low n rs us f := ⟨fun i hi => (c i hi i hi).1 rfl, fun i hi j hj => (fx.bd i hi j hj).2, fun i h d he => by
    obtain ⟨hi, hh⟩ := el i h d he
    have := ((c i hi h hh).2 (ed1 i h d he).2).2.1 h d he
    have := (c h hh h hh).1 rfl
    omega, fun i hi j hj k hk => tri _ i j k hi hj hk (Nat.le_refl _)⟩
  have up : ∀ (m i j : Nat), i < n → j < n → (f i j).toNat ≤ m → W i j ≤ f i j := by
    intro m
    induction m with
    | zero =>
      intro i j hi hj hm
      have b := fx.bd i hi j hj
      by_cases e : i = j
      · subst e; have := (c i hi i hi).1 rfl; have := iw.w0.diag i hi; omega
      · obtain ⟨_, _, q⟩ := (c i hi j hj).2 e
        rcases q with q | ⟨h, d, he, q⟩
        · omega
        · have := (ed1 i h d he).1
          have := (fx.bd h (el i h d he).2 j hj).1
          omega
    | succ m ih =>
      intro i j hi hj hm
      have b := fx.bd i hi j hj
      by_cases e : i = j
      · subst e; have := (c i hi i hi).1 rfl; have := iw.w0.diag i hi; omega
      · obtain ⟨_, _, q⟩ := (c i hi j hj).2 e
        rcases q with q | ⟨h, d, he, q⟩
        · have := (iw.w0.bd i hi j hj).2; omega
        · have hd := (ed1 i h d he).1
          have hh := (el i h d he).2
          have bh := fx.bd h hh j hj
          have t := ih h j hh hj (by omega)
          have := iw.edge i h d he
          have := iw.tri h hh i hi j hj
          omega
  intro i hi j hj
  apply Int.le_antisymm
  · exact iw.w0.low f low i hi j hj
  · exact up _ i j hi hj (Nat.le_refl _)
theorem isNext_uniq {l : List (Int × Nat)} {r r' : PyData} (h : IsNext l r) (h' : IsNext l r') : r = r' := by
  rcases h with ⟨e, rfl⟩ | ⟨q, hq, hm, rfl⟩
  · rcases h' with ⟨_, rfl⟩ | ⟨q', hq', _⟩
    · rfl
    · rw [e] at hq'; cases hq'
  · rcases h' with ⟨e, _⟩ | ⟨q', hq', hm', rfl⟩
    · rw [e] at hq; cases hq
    · have h1 := hm q' hq'
      have h2 := hm' q hq
      have e1 : q.1 = q'.1 := by omega
      have e2 : q.2 = q'.2 := by omega
      rw [e1, e2]
theorem isNext_plain {l : List (Int × Nat)} {r : PyData} (h : IsNext l r) : r.plain = true ∧ r.depth ≤ 10 ∧ PyData.eqv r r = true := by
  have : r = .none ∨ ∃ i, r = .int i := by
    rcases h with ⟨_, rfl⟩ | ⟨q, _, _, rfl⟩
    · exact .inl rfl
    · split
      · exact .inr ⟨_, rfl⟩
      · exact .inl rfl
  rcases this with rfl | ⟨i, rfl⟩
  · exact ⟨rfl, by simp [PyData.depth], rfl⟩
  · exact ⟨rfl, by simp [PyData.depth], by rw [eqv_int]; simp⟩
/-! the ways sorted -/
def wle (p q : Int × Nat) : Bool := !decide (q.1 < p.1 ∨ (q.1 = p.1 ∧ (q.2 : Int) < (p.2 : Int)))
theorem wle_total : PySem.W.TotalLe wle := ⟨fun a b c h1 h2 => by unfold wle at *; simp at *; omega, fun a b => by unfold wle; simp; omega⟩
theorem sort_ways (ps : List (Int × Nat)) : sortD (ps.map wayD) = (ps.mergeSort wle).map wayD := by
  unfold sortD
  refine (PySem.W.sort_maps wayD fun a _ b _ => ?_).symm
  rw [PySem.W.dataLe_eq]
  show wle a b = !PySem.W.dataLt (wayD b) (wayD a)
  have : PySem.W.dataLt (wayD b) (wayD a) = decide (b.1 < a.1 ∨ (b.1 = a.1 ∧ (b.2 : Int) < (a.2 : Int))) := PySem.W.dataLt_ii _ _ _ _
  rw [this]
  rfl
theorem sort_head {ps : List (Int × Nat)} (h : ps ≠ []) : ∃ q tl, ps.mergeSort wle = q :: tl ∧ q ∈ ps ∧ ∀ p ∈ ps, q.1 < p.1 ∨ (q.1 = p.1 ∧ q.2 ≤ p.2) := by
  cases e : ps.mergeSort wle with
  | nil =>
    have := (List.mergeSort_perm ps wle).length_eq
    rw [e] at this
    exact absurd (List.length_eq_zero_iff.mp this.symm) h
  | cons q tl =>
    have pm := List.mergeSort_perm ps wle
    rw [e] at pm
    refine ⟨q, tl, rfl, pm.mem_iff.mp List.mem_cons_self, fun p hp => ?_⟩
    rcases List.mem_cons.mp (pm.mem_iff.mpr hp) with rfl | hp
    · exact .inr ⟨rfl, Nat.le_refl _⟩
    · have so := PySem.W.sort_pairwise wle_total ps
      rw [e] at so
      have := (List.pairwise_cons.mp so).1 p hp
      unfold wle at this
      simp at this
      omega
def waysOf (f : Tab) (o : Nat) (ns : List Tri) : List (Int × Nat) := ns.map fun t => ((t.d : Int) + f t.h o, t.h)
def sLn (xs : List MV) (m : Mm) (Q : QV) : Prop := ∃ (n : Nat) (rs : List Row) (y : MV) (us : List Bool) (f : Tab) (h o : Nat), xs = [.d (.tuple (rowsD rs)), y, .d (tabD n f), .d (.int h), .d (.int o)] ∧ seqOf m y = some (blsD us) ∧ us.length = rs.length ∧ Gr n rs ∧ h < n ∧ o < n ∧ ∀ r, IsNext (waysOf f o (near h rs us)) r → Q (.d r) m
section
variable {P : Program} {w : World} {K : PySem.W.Frag} {mg : Str → Option Value} {base : Heap} {f : Addr} {fd : FuncData} {CR CF : Addr}
theorem ok_ln (F : Fun K "_law_next" "_law_next" stLn f fd) (B : Bt mg) : FnOk P w K mg base CX0 1 f fd ["_law_roads_here", "_law_up", "_law_fars", "_law_house", "_law_other"] (spM K sLn) := by
  refine fn_m F scLn (fun xs m Q h => by obtain ⟨_, _, _, _, _, _, _, rfl, _⟩ := h; rfl) fun X Fm xs m Q ⟨n, rs, y, us, f, h, o, ex, hy, hl, gr, hh, ho, q⟩ hs => ?_
  subst ex
  have l14 := gr.len
  refine ws_cons ?_
  walk_at "w"
  refine ⟨by decide, .inr ?_⟩
  refine ws_cut (fun ρ' m' => ∃ (u6 u7 u8 u9 u10 u11 : Option MV), ρ' = [some (.d (.tuple (rowsD rs))), some y, some (.d (tabD n f)), some (.d (.int h)), some (.d (.int o)), some (.r m.length), u6, u7, u8, u9, u10, u11] ∧ m' = m ++ [.lst (((waysOf f o (near h rs us)).map wayD).map .d)]) ?_ ?_
  · refine ws_for Fm (wi_range1 Fm B.range ?_)
    walk_at "w"
    refine ⟨_, rfl, ?_⟩
    walk_at "w"
    refine ⟨_, rfl, by omega, by simp [rowsD]; omega, fun c ρ' m' => ∃ (u6 u7 u8 u9 u10 u11 : Option MV), ρ' = [some (.d (.tuple (rowsD rs))), some y, some (.d (tabD n f)), some (.d (.int h)), some (.d (.int o)), some (.r m.length), u6, u7, u8, u9, u10, u11] ∧ m' = m ++ [.lst (((waysOf f o (near h (rs.take c) (us.take c))).map wayD).map .d)], ⟨_, _, _, _, _, _, rfl, by simp [near, waysOf]⟩, fun _ _ _ _ _ => trivial, ?_, ?_⟩
    · rintro c x ρ' m' hx ⟨u6, u7, u8, u9, u10, u11, rfl, rfl⟩
      obtain ⟨hk, rfl⟩ := rangeM_some hx
      have hkl : c < rs.length := by simpa [rowsD] using hk
      obtain ⟨r, hr⟩ : ∃ r, rs[c]? = some r := ⟨rs[c], List.getElem?_eq_getElem hkl⟩
      obtain ⟨u, hu⟩ : ∃ u, us[c]? = some u := ⟨us[c], List.getElem?_eq_getElem (by omega)⟩
      have ok := gr.row r (List.mem_of_getElem? hr)
      have ab := ok.ab
      have bn := ok.bn
      have step := near_take (h := h) rs us c r u hr hu
      have lim : (waysOf f o (near h (rs.take c) (us.take c))).length < 1000 := by unfold waysOf; rw [List.length_map]; have := near_len (h := h) (rs.take c) (us.take c); rw [List.length_take] at this; omega
      rw [Int.zero_add]
      walk_at "w"
      refine ix_w Fm rfl (atI_of (rowD_at hr) rfl) ?_
      walk_at "w"
      refine ix_w Fm (seqOf_app hy) (atI_of (bls_at hu) rfl) ⟨_, rfl, ?_⟩
      cases u with
      | false =>
        refine L2.iteF (L2.iteF ?_)
        walk_at "w"
        refine ⟨_, _, _, _, _, _, rfl, ?_⟩
        rw [step, if_neg (fun z => by cases z.1), if_neg (fun z => by cases z.1), List.append_nil]
      | true =>
        refine L2.iteT ?_
        walk_at "w"
        refine ⟨by show 2 ≤ 1000; decide, .inl ⟨[.int r.a, .int r.b], rfl, ?_⟩⟩
        refine o_in Fm (d := .int h) (xs := [.int r.a, .int r.b]) rfl (.inl rfl) rfl rfl (by simp [PyData.depth]) ⟨_, rfl, ?_⟩
        have ev : ([PyData.int r.a, PyData.int r.b].any fun z => PyData.eqv z (.int h)) = decide (r.a = h ∨ r.b = h) := by
          show (PyData.eqv (.int r.a) (.int h) || (PyData.eqv (.int r.b) (.int h) || false)) = _
          rw [eqv_int, eqv_int]
          by_cases e1 : r.a = h
          · simp [e1]
          · by_cases e2 : r.b = h
            · simp [e2]
            · have z1 : ¬ (r.a : Int) = (h : Int) := by omega
              have z2 : ¬ (r.b : Int) = (h : Int) := by omega
              simp [e1, e2, z1, z2]
        rw [ev]
        by_cases e : r.a = h ∨ r.b = h
        · rw [decide_eq_true e]
          obtain ⟨t, ht, et⟩ : ∃ t : Nat, t < n ∧ (r.a : Int) + (r.b : Int) - (h : Int) = (t : Int) := by
            rcases e with e | e
            · exact ⟨r.b, bn, by omega⟩
            · exact ⟨r.a, by omega, by omega⟩
          refine L2.iteT ?_
          walk_at "w"
          refine o_add ?_
          walk_at "w"
          refine o_sub ?_
          rw [et]
          walk_at "w"
          refine ⟨_, _, rfl, last_get _ _, ?_⟩
          walk_at "e"
          walk_at "e"
          walk_at "e"
          walk_at "e"
          refine we_tcell Fm (W := f) (a := t) (b := o) ht ho ?_
          walk_at "e"
          refine ⟨rfl, rfl, ?_⟩
          walk_at "e"
          refine ⟨rfl, rfl, ?_⟩
          walk_at "e"
          refine ⟨rfl, rfl, ?_⟩
          refine o_add ?_
          walk_at "w"
          refine ⟨[.int ((r.d : Int) + f t o), .int t], rfl, by show 2 ≤ 1000; decide, _, last_get _ _, by simp; omega, ?_⟩
          rw [last_set]
          walk_at "w"
          refine ⟨_, _, _, _, _, _, rfl, ?_⟩
          rw [step]
          by_cases e1 : r.a = h
          · have : t = r.b := by omega
            subst this
            rw [if_pos ⟨rfl, e1⟩]
            unfold waysOf
            rw [List.map_append, List.map_append, List.map_append]
            rfl
          · have e2 : r.b = h := by omega
            have : t = r.a := by omega
            subst this
            rw [if_neg (fun z => e1 z.2), if_pos ⟨rfl, e2⟩]
            unfold waysOf
            rw [List.map_append, List.map_append, List.map_append]
            rfl
        · rw [decide_eq_false e]
          refine L2.iteF ?_
          walk_at "w"
          refine ⟨_, _, _, _, _, _, rfl, ?_⟩
          rw [step, if_neg (fun z => e (.inl z.2)), if_neg (fun z => e (.inr z.2)), List.append_nil]
    · rintro ρ' m' ⟨u6, u7, u8, u9, u10, u11, rfl, rfl⟩
      have e : (rangeM 0 (Int.toNat (((rowsD rs).map MV.d).length : Nat))).length = rs.length := by rw [rangeM_len]; simp [rowsD]
      refine ⟨_, _, _, _, _, _, rfl, ?_⟩
      rw [e, List.take_length, ← hl, List.take_length]
  · rintro ρ' m' ⟨u6, u7, u8, u9, u10, u11, rfl, rfl⟩
    have lw : (waysOf f o (near h rs us)).length ≤ 14 := by unfold waysOf; rw [List.length_map]; exact Nat.le_trans (near_len rs us) l14
    generalize hw : waysOf f o (near h rs us) = ways at q lw ⊢
    have srt : lstOf (m ++ [.lst ((ways.map wayD).map .d)]) (.r m.length) = some ((ways.map wayD).map .d) := lstOf_r (last_get _ _)
    have al : PySem.W.AllAlike (ways.map wayD) := fun d hd d' hd' => (ways_alike ways).1 d hd d' hd'
    have so : PySem.W.Sortable (ways.map wayD) := .inl fun d hd => by obtain ⟨p, _, rfl⟩ := List.mem_map.mp hd; exact ⟨_, _, rfl⟩
    have dp : ∀ d ∈ ways.map wayD, d.depth ≤ 100 := fun d hd => by obtain ⟨p, _, rfl⟩ := List.mem_map.mp hd; simp [wayD, PyData.depth, PyData.depthAll]
    have hz : (ways.map wayD).length ≤ 100000 := by rw [List.length_map]; omega
    walk_at "w"
    refine ⟨by decide, .inl ⟨[], rfl, ?_⟩⟩
    refine o_eq Fm (datOf_r (last_get _ _)) rfl (ways_plain ways) rfl (by simp [PyData.depth, PyData.depthAll]) ⟨_, rfl, ?_⟩
    cases ways with
    | nil =>
      refine L2.iteT (L2.iteT ?_)
      walk_at "w"
      exact ret_drop hs trivial (q _ (.inl ⟨rfl, rfl⟩))
    | cons p ps =>
      obtain ⟨z, tl, es, hz1, hm⟩ := sort_head (ps := p :: ps) (by simp)
      have esd : sortD ((p :: ps).map wayD) = wayD z :: tl.map wayD := by rw [sort_ways, es]; rfl
      refine L2.iteF ?_
      walk_at "w"
      refine ⟨_, srt, al, so, hz, dp, .inl ⟨_, rfl, ?_⟩⟩
      rw [esd]
      walk_at "w"
      refine ix_w Fm (y := .d (wayD z)) rfl (atI_of (k := 0) rfl rfl) ?_
      walk_at "w"
      refine ix_w Fm (y := .d (.int z.1)) (xs := [.d (.int z.1), .d (.int z.2)]) rfl (atI_of (k := 0) rfl rfl) ?_
      walk_at "w"
      refine o_gt ⟨_, rfl, ?_⟩
      by_cases hlt : z.1 < 24
      · rw [decide_eq_false (show ¬ (23 : Int) < z.1 by omega)]
        refine L2.iteF ?_
        walk_at "w"
        refine ⟨_, srt, al, so, hz, dp, .inl ⟨_, rfl, ?_⟩⟩
        rw [esd]
        walk_at "w"
        refine ix_w Fm (y := .d (wayD z)) rfl (atI_of (k := 0) rfl rfl) ?_
        walk_at "w"
        refine ix_w Fm (y := .d (.int z.2)) (xs := [.d (.int z.1), .d (.int z.2)]) rfl (atI_of (k := 1) rfl rfl) ?_
        exact ret_drop hs trivial (q _ (.inr ⟨z, hz1, hm, by rw [if_pos hlt]⟩))
      · rw [decide_eq_true (show (23 : Int) < z.1 by omega)]
        refine L2.iteT ?_
        walk_at "w"
        exact ret_drop hs trivial (q _ (.inr ⟨z, hz1, hm, by rw [if_neg hlt]⟩))
end

end Wn
set_option Elab.async false
set_option linter.all false
set_option maxRecDepth 100000
set_option maxHeartbeats 2000000
set_option autoImplicit false
set_option pp.maxSteps 600
namespace Wn
open PySem L2
local macro_rules | `(tactic| walk_at "fam") => `(tactic| first | assumption | exact Fam.blk (by assumption) _ | exact Fam.blk (Fam.blk (by assumption) _) _)
local macro_rules | `(tactic| walk_at "at") => `(tactic| with_reducible first | exact At.z | exact At.s At.z | exact At.s (At.s At.z) | exact At.s (At.s (At.s At.z)) | exact At.s (At.s (At.s (At.s At.z))) | exact At.s (At.s (At.s (At.s (At.s At.z)))) | exact At.s (At.s (At.s (At.s (At.s (At.s At.z))))) | exact At.s (At.s (At.s (At.s (At.s (At.s (At.s At.z)))))) | exact At.s (At.s (At.s (At.s (At.s (At.s (At.s (At.s At.z))))))) | exact At.s (At.s (At.s (At.s (At.s (At.s (At.s (At.s (At.s At.z)))))))) | exact At.s (At.s (At.s (At.s (At.s (At.s (At.s (At.s (At.s (At.s At.z))))))))) | exact At.s (At.s (At.s (At.s (At.s (At.s (At.s (At.s (At.s (At.s (At.s At.z)))))))))) | exact At.s (At.s (At.s (At.s (At.s (At.s (At.s (At.s (At.s (At.s (At.s (At.s At.z))))))))))) | exact At.s (At.s (At.s (At.s (At.s (At.s (At.s (At.s (At.s (At.s (At.s (At.s (At.s At.z)))))))))))) | exact At.s (At.s (At.s (At.s (At.s (At.s (At.s (At.s (At.s (At.s (At.s (At.s (At.s (At.s At.z))))))))))))) | exact At.s (At.s (At.s (At.s (At.s (At.s (At.s (At.s (At.s (At.s (At.s (At.s (At.s (At.s (At.s At.z)))))))))))))) | exact At.s (At.s (At.s (At.s (At.s (At.s (At.s (At.s (At.s (At.s (At.s (At.s (At.s (At.s (At.s (At.s At.z))))))))))))))) | exact At.s (At.s (At.s (At.s (At.s (At.s (At.s (At.s (At.s (At.s (At.s (At.s (At.s (At.s (At.s (At.s (At.s At.z)))))))))))))))) | exact At.s (At.s (At.s (At.s (At.s (At.s (At.s (At.s (At.s (At.s (At.s (At.s (At.s (At.s (At.s (At.s (At.s (At.s At.z))))))))))))))))) | exact At.s (At.s (At.s (At.s (At.s (At.s (At.s (At.s (At.s (At.s (At.s (At.s (At.s (At.s (At.s (At.s (At.s (At.s (At.s At.z)))))))))))))))))) | exact At.s (At.s (At.s (At.s (At.s (At.s (At.s (At.s (At.s (At.s (At.s (At.s (At.s (At.s (At.s (At.s (At.s (At.s (At.s (At.s At.z))))))))))))))))))) | exact At.s (At.s (At.s (At.s (At.s (At.s (At.s (At.s (At.s (At.s (At.s (At.s (At.s (At.s (At.s (At.s (At.s (At.s (At.s (At.s (At.s At.z)))))))))))))))))))))
local macro_rules | `(tactic| walk_at "call") => `(tactic| first
  | ((with_reducible show We _ _ (.Call (.Name "len" _) _ _ _) _ _ _); refine b_len (by walk_at "fam") (by assumption) ?_)
  | ((with_reducible show We _ _ (.Call (.Name "isinstance" _) [_, .Name "int" _] _ _) _ _ _); refine b_isiInt (by walk_at "fam") (by assumption) ?_)
  | ((with_reducible show We _ _ (.Call (.Name "isinstance" _) [_, .Name "bool" _] _ _) _ _ _); refine b_isiBool (by walk_at "fam") (by assumption) ?_)
  | ((with_reducible show We _ _ (.Call (.Name "isinstance" _) [_, .Name "tuple" _] _ _) _ _ _); refine b_isiTup (by walk_at "fam") (by assumption) ?_)
  | ((with_reducible show We _ _ (.Call (.Name "abs" _) _ _ _) _ _ _); refine b_abs (by walk_at "fam") (by assumption) ?_)
  | ((with_reducible show We _ _ (.Call (.Name "int" _) _ _ _) _ _ _); refine b_intB (by walk_at "fam") (by assumption) ?_)
  | ((with_reducible show We _ _ (.Call (.Name "tuple" _) _ _ _) _ _ _); refine b_tup (by walk_at "fam") (by assumption) ?_)
  | ((with_reducible show We _ _ (.Call (.Name "list" _) [.Call (.Name "range" _) _ _ _] _ _) _ _ _); refine we_listRg (by walk_at "fam") (Bt.list (by assumption)) (Bt.range (by assumption)) ?_)
  | ((with_reducible show We _ _ (.Call (.Name "list" _) _ _ _) _ _ _); refine b_lst (by walk_at "fam") (by assumption) ?_)
  | ((with_reducible show We _ _ (.Call (.Name "min" _) [_, _] _ _) _ _ _); refine b_min2 (by walk_at "fam") (by assumption) ?_)
  | ((with_reducible show We _ _ (.Call (.Name "min" _) [_] [_] _) _ _ _); refine we_minDD (by walk_at "fam") (Bt.min (by assumption)) ?_)
  | ((with_reducible show We _ _ (.Call (.Name "min" _) [_] [] _) _ _ _); refine b_min1 (by walk_at "fam") (by assumption) ?_)
  | ((with_reducible show We _ _ (.Call (.Name "sorted" _) _ _ _) _ _ _); refine b_sorted (by walk_at "fam") (by assumption) ?_)
  | ((with_reducible show We _ _ (.Call (.Attribute _ "append" _) _ _ _) _ _ _); refine we_append (by walk_at "fam") ?_)
  | ((with_reducible show We _ _ (.Call (.Name _ _) _ _ _) _ _ _); refine we_call (by walk_at "fam") (by assumption) (by decide) ?_)
  | ((with_reducible show We _ _ (.Call (.Name _ _) _ _ _) _ _ _); refine we_make (by walk_at "fam") (by assumption) (by decide) ?_)
  | ((with_reducible show We _ _ (.Call (.Attribute _ _ _) (_ :: _) _ _) _ _ _); refine we_meth (by walk_at "fam") (by assumption) (by decide) ?_)
  | ((with_reducible show We _ _ (.Call (.Attribute _ _ _) [] _ _) _ _ _); refine we_meth0 (by walk_at "fam") (by assumption) (by decide) ?_))
local macro_rules | `(tactic| walk_at "e") => `(tactic| first
  | ((with_reducible show We _ _ (.Name _ _) _ _ _); first | refine we_varA (by walk_at "fam") (by walk_at "at") (by rfl) ?_ | refine we_gint (by walk_at "fam") (by assumption) ?_)
  | ((with_reducible show We _ _ (.Constant _ _ _) _ _ _); first | refine we_int ?_ | refine we_bl ?_ | refine we_non ?_ | refine we_str ?_)
  | ((with_reducible show We _ _ (.BinOp _ _ _ _) _ _ _); refine we_bin ?_)
  | ((with_reducible show We _ _ (.Compare _ [_] _ _) _ _ _); refine we_cmp ?_)
  | ((with_reducible show We _ _ (.Compare _ [_, _] _ _) _ _ _); refine we_chain ?_)
  | ((with_reducible show We _ _ (.BoolOp _ [_] _) _ _ _); refine we_one ?_)
  | ((with_reducible show We _ _ (.BoolOp .And _ _) _ _ _); refine we_and ?_)
  | ((with_reducible show We _ _ (.BoolOp .Or _ _) _ _ _); refine we_or ?_)
  | ((with_reducible show We _ _ (.UnaryOp .Not _ _) _ _ _); refine we_not ?_)
  | ((with_reducible show We _ _ (.IfExp _ _ _ _) _ _ _); refine we_ifExp ?_)
  | ((with_reducible show We _ _ (.Tuple _ _ _) _ _ _); refine we_tup ?_)
  | ((with_reducible show We _ _ (.List _ _) _ _ _); refine we_lst ?_)
  | ((with_reducible show We _ _ (.Subscript _ (.Slice _ _ _ _) _) _ _ _); refine we_slice (by walk_at "fam") ?_)
  | ((with_reducible show We _ _ (.Subscript _ _ _) _ _ _); refine we_ix ?_)
  | ((with_reducible show We _ _ (.Attribute _ _ _) _ _ _); refine we_fld (by walk_at "fam") ?_)
  | walk_at "call"
  | ((with_reducible show Wo _ _ none _ _ _); refine wo_none ?_)
  | ((with_reducible show Wo _ _ (some _) _ _ _); refine wo_some ?_)
  | ((with_reducible show Wr _ _ [] _ _ _); refine wr_nil ?_)
  | ((with_reducible show Wr _ _ (_ :: _) _ _ _); refine wr_cons ?_)
  | ((with_reducible show Wt _ _ (.UnaryOp .Not _ _) _ _ _); refine wt_not ?_)
  | ((with_reducible show Wt _ _ (.BoolOp .And _ _) _ _ _); refine wt_w (ww_and ?_))
  | ((with_reducible show Wt _ _ (.BoolOp .Or _ _) _ _ _); refine wt_w (ww_or ?_))
  | ((with_reducible show Wt _ _ (.Compare _ [_] _ _) _ _ _); refine wt_cmp ?_)
  | ((with_reducible show Wt _ _ _ _ _ _); refine wt_val ?_)
  | ((with_reducible show Ww _ _ (.BoolOp .And [_] _) _ _ _); refine ww_and1 ?_)
  | ((with_reducible show Ww _ _ (.BoolOp .Or [_] _) _ _ _); refine ww_or1 ?_)
  | ((with_reducible show Ww _ _ (.BoolOp .And _ _) _ _ _); refine ww_and ?_)
  | ((with_reducible show Ww _ _ (.BoolOp .Or _ _) _ _ _); refine ww_or ?_)
  | ((with_reducible show Ws _ _ [] _ _ _); refine ws_nil ?_)
  | ((with_reducible show Ws _ _ (_ :: _) _ _ _); refine ws_cons ?_)
  | ((with_reducible show Ws1 _ _ (.Return (some _) _) _ _ _); refine ws_ret ?_)
  | ((with_reducible show Ws1 _ _ (.If _ _ _ _) _ _ _); refine ws_if ?_)
  | ((with_reducible show Ws1 _ _ (.Expr _ _) _ _ _); refine ws_expr ?_)
  | ((with_reducible show Ws1 _ _ (.Assign [.Name _ _] (.ListComp _ _ _ _) _) _ _ _); fail)
  | ((with_reducible show Ws1 _ _ (.Assign [.Name _ _] _ _) _ _ _); refine ws_setA (by walk_at "fam") (by walk_at "at") ?_)
  | ((with_reducible show Ws1 _ _ (.Assign [.Attribute _ _ _] _ _) _ _ _); refine ws_fld (by walk_at "fam") ?_)
  | ((with_reducible show Ws1 _ _ (.Assign [_] _ _) _ _ _); refine ws_asg ?_)
  | ((with_reducible show Wts _ _ [] _ _ _); refine wts_nil ?_)
  | ((with_reducible show Wts _ _ [_] _ _ _); refine wts_one ?_)
  | ((with_reducible show Wg _ _ _ (.Name _ _) _ _ _ _); refine wg_nameA (by walk_at "fam") (by walk_at "at") ?_)
  | ((with_reducible show Wg _ _ _ (.Tuple _ _ _) _ _ _ _); refine wg_tup (by walk_at "fam") ?_)
  | ((with_reducible show Wg _ _ _ (.Subscript _ _ _) _ _ _ _); refine wg_sub ?_)
  | refine wgs_nil ?_ | refine wgs_cons ?_)
local macro_rules | `(tactic| walk_at "w") => `(tactic| repeat walk_at "e")
def sLs (CR CF : Addr) (xs : List MV) (m : Mm) (Q : QV) : Prop := ∃ (j i n : Nat) (f f' : Tab) (rs : List Row) (us : List Bool) (s : Nat) (y : MV), xs = [.r j, .d (.int n), .d (.tuple (rowsD rs)), y, .d (tabD n f')] ∧ m[j]? = some (insF CF i n f) ∧ Ra CR m i n rs us s ∧ Same2 n f f' ∧ seqOf m y = some (blsD us) ∧ Q (.d (.bool true)) m
theorem ways_same {n : Nat} {f f' : Tab} (h : Same2 n f f') {o : Nat} (ho : o < n) : ∀ ns : List Tri, (∀ t ∈ ns, t.h < n) → waysOf f o ns = waysOf f' o ns := fun ns hn => by
  unfold waysOf
  apply List.map_congr_left
  intro t ht
  rw [h t.h (hn t ht) o ho]
section
variable {P : Program} {w : World} {K : PySem.W.Frag} {mg : Str → Option Value} {base : Heap} {f : Addr} {fd : FuncData} {CR CF : Addr}
theorem ok_stands (F : Fun K "_law_stands" "_law_stands" stLs f fd) (B : Bt mg) (T : Kc K CR CF) (C1 : Cam P w K mg base 1 CF "rows" (sFrows CF)) (C2 : Cam P w K mg base 4 CF "far" (sFfar CR CF)) (C3 : Cam P w K mg base 4 CF "next" (sFnext CR CF)) (C4 : Cal P w K mg base 1 "_law_next" 5 sLn) : FnOk P w K mg base CX0 5 f fd ["_law_known", "_law_houses", "_law_roads_here", "_law_up", "_law_fars"] (spM K (sLs CR CF)) := by
  refine fn_m F scLs (fun xs m Q h => by obtain ⟨_, _, _, _, _, _, _, _, _, rfl, _⟩ := h; rfl) fun X Fm xs m Q ⟨j, i, n, f, f', rs, us, s, y, ex, hj, ra, sm, hy, q⟩ hs => ?_
  subst ex
  have n8 := ra.g.n8
  have inr : ∀ {a : Nat}, a < n → ∀ {b : Nat}, b < n → True := fun _ _ _ => trivial
  refine ws_cons ?_
  walk_at "w"
  refine ⟨j, _, rfl, hj, rfl, ?_⟩
  refine ⟨j, i, n, f, rfl, hj, ?_⟩
  walk_at "w"
  refine o_ne Fm rfl rfl (tab_plain n f) (tab_plain n f') (by have := tab_depth n f; omega) ⟨_, rfl, ?_⟩
  rw [(tab_eqv n f f').mpr sm]
  refine L2.iteF ?_
  walk_at "w"
  refine ws_for Fm (wi_range1 Fm B.range ?_)
  walk_at "w"
  refine ⟨n, rfl, by omega, by omega, fun a ρ' m' => m = m' ∧ ∃ u1 u2 u3, ρ' = [some (.r j), some (.d (.int n)), some (.d (.tuple (rowsD rs))), some y, some (.d (tabD n f')), u1, u2, u3], ⟨rfl, _, _, _, rfl⟩, fun _ _ _ _ _ => trivial, ?_, ?_⟩
  · rintro a x ρ' m' hx ⟨rfl, u1, u2, u3, rfl⟩
    obtain ⟨ha, rfl⟩ := rangeM_some hx
    have han : a < n := by omega
    rw [Int.zero_add]
    walk_at "w"
    refine ws_for Fm (wi_range1 Fm B.range ?_)
    walk_at "w"
    refine ⟨n, rfl, by omega, by omega, fun b ρ' m' => m = m' ∧ ∃ u2 u3, ρ' = [some (.r j), some (.d (.int n)), some (.d (.tuple (rowsD rs))), some y, some (.d (tabD n f')), some (.d (.int a)), u2, u3], ⟨rfl, _, _, rfl⟩, fun _ _ _ _ _ => trivial, ?_, ?_⟩
    · rintro b x ρ' m' hx ⟨rfl, u2, u3, rfl⟩
      obtain ⟨hb, rfl⟩ := rangeM_some hx
      have hbn : b < n := by omega
      rw [Int.zero_add]
      walk_at "w"
      refine ⟨j, _, rfl, hj, rfl, ?_⟩
      walk_at "w"
      refine ⟨j, i, n, f, rs, us, s, a, b, rfl, hj, ra, han, hbn, ?_⟩
      refine we_tcell Fm (W := f') (a := a) (b := b) han hbn ?_
      walk_at "e"
      refine ⟨rfl, rfl, ?_⟩
      walk_at "e"
      refine ⟨rfl, rfl, ?_⟩
      walk_at "e"
      refine ⟨rfl, rfl, ?_⟩
      refine o_neI Fm ⟨_, rfl, ?_⟩
      rw [decide_eq_true (sm a han b hbn)]
      refine L2.iteF ?_
      walk_at "w"
      refine ⟨n, rs, y, us, f', a, b, rfl, hy, ra.e, ra.g, han, hbn, fun r hr => ?_⟩
      walk_at "w"
      refine o_neI Fm ⟨_, rfl, ?_⟩
      by_cases hab : a = b
      · rw [decide_eq_true (show (a : Int) = (b : Int) by omega)]
        refine L2.iteF (L2.iteF ?_)
        walk_at "w"
        exact ⟨rfl, _, _, rfl⟩
      · rw [decide_eq_false (show ¬ (a : Int) = (b : Int) by omega)]
        refine L2.iteT ?_
        walk_at "w"
        refine ⟨j, _, rfl, hj, rfl, ?_⟩
        walk_at "w"
        refine ⟨j, i, n, f, rs, us, s, a, b, rfl, hj, ra, han, hbn, hab, fun r2 hr2 => ?_⟩
        have er : r2 = r := isNext_uniq hr2 (by rw [← ways_same sm hbn _ (near_lt ra.g)] at hr; exact hr)
        subst er
        obtain ⟨h1, h2, h3⟩ := isNext_plain hr
        walk_at "w"
        refine o_ne Fm rfl rfl h1 h1 (by omega) ⟨_, rfl, ?_⟩
        rw [h3]
        refine L2.iteF ?_
        walk_at "w"
        exact ⟨rfl, _, _, rfl⟩
    · rintro ρ' m' ⟨rfl, u2, u3, rfl⟩
      walk_at "w"
      exact ⟨rfl, _, _, _, rfl⟩
  · rintro ρ' m' ⟨rfl, u1, u2, u3, rfl⟩
    walk_at "w"
    exact .inl q
end

end Wn
set_option Elab.async false
set_option linter.all false
set_option maxRecDepth 100000
set_option maxHeartbeats 2000000
set_option autoImplicit false
set_option pp.maxSteps 600
namespace Wn
open PySem L2
local macro_rules | `(tactic| walk_at "fam") => `(tactic| first | assumption | exact Fam.blk (by assumption) _ | exact Fam.blk (Fam.blk (by assumption) _) _)
local macro_rules | `(tactic| walk_at "at") => `(tactic| with_reducible first | exact At.z | exact At.s At.z | exact At.s (At.s At.z) | exact At.s (At.s (At.s At.z)) | exact At.s (At.s (At.s (At.s At.z))) | exact At.s (At.s (At.s (At.s (At.s At.z)))) | exact At.s (At.s (At.s (At.s (At.s (At.s At.z))))) | exact At.s (At.s (At.s (At.s (At.s (At.s (At.s At.z)))))) | exact At.s (At.s (At.s (At.s (At.s (At.s (At.s (At.s At.z))))))) | exact At.s (At.s (At.s (At.s (At.s (At.s (At.s (At.s (At.s At.z)))))))) | exact At.s (At.s (At.s (At.s (At.s (At.s (At.s (At.s (At.s (At.s At.z))))))))) | exact At.s (At.s (At.s (At.s (At.s (At.s (At.s (At.s (At.s (At.s (At.s At.z)))))))))) | exact At.s (At.s (At.s (At.s (At.s (At.s (At.s (At.s (At.s (At.s (At.s (At.s At.z))))))))))) | exact At.s (At.s (At.s (At.s (At.s (At.s (At.s (At.s (At.s (At.s (At.s (At.s (At.s At.z)))))))))))) | exact At.s (At.s (At.s (At.s (At.s (At.s (At.s (At.s (At.s (At.s (At.s (At.s (At.s (At.s At.z))))))))))))) | exact At.s (At.s (At.s (At.s (At.s (At.s (At.s (At.s (At.s (At.s (At.s (At.s (At.s (At.s (At.s At.z)))))))))))))) | exact At.s (At.s (At.s (At.s (At.s (At.s (At.s (At.s (At.s (At.s (At.s (At.s (At.s (At.s (At.s (At.s At.z))))))))))))))) | exact At.s (At.s (At.s (At.s (At.s (At.s (At.s (At.s (At.s (At.s (At.s (At.s (At.s (At.s (At.s (At.s (At.s At.z)))))))))))))))) | exact At.s (At.s (At.s (At.s (At.s (At.s (At.s (At.s (At.s (At.s (At.s (At.s (At.s (At.s (At.s (At.s (At.s (At.s At.z))))))))))))))))) | exact At.s (At.s (At.s (At.s (At.s (At.s (At.s (At.s (At.s (At.s (At.s (At.s (At.s (At.s (At.s (At.s (At.s (At.s (At.s At.z)))))))))))))))))) | exact At.s (At.s (At.s (At.s (At.s (At.s (At.s (At.s (At.s (At.s (At.s (At.s (At.s (At.s (At.s (At.s (At.s (At.s (At.s (At.s At.z))))))))))))))))))) | exact At.s (At.s (At.s (At.s (At.s (At.s (At.s (At.s (At.s (At.s (At.s (At.s (At.s (At.s (At.s (At.s (At.s (At.s (At.s (At.s (At.s At.z)))))))))))))))))))))
local macro_rules | `(tactic| walk_at "call") => `(tactic| first
  | ((with_reducible show We _ _ (.Call (.Name "len" _) _ _ _) _ _ _); refine b_len (by walk_at "fam") (by assumption) ?_)
  | ((with_reducible show We _ _ (.Call (.Name "isinstance" _) [_, .Name "int" _] _ _) _ _ _); refine b_isiInt (by walk_at "fam") (by assumption) ?_)
  | ((with_reducible show We _ _ (.Call (.Name "isinstance" _) [_, .Name "bool" _] _ _) _ _ _); refine b_isiBool (by walk_at "fam") (by assumption) ?_)
  | ((with_reducible show We _ _ (.Call (.Name "isinstance" _) [_, .Name "tuple" _] _ _) _ _ _); refine b_isiTup (by walk_at "fam") (by assumption) ?_)
  | ((with_reducible show We _ _ (.Call (.Name "abs" _) _ _ _) _ _ _); refine b_abs (by walk_at "fam") (by assumption) ?_)
  | ((with_reducible show We _ _ (.Call (.Name "int" _) _ _ _) _ _ _); refine b_intB (by walk_at "fam") (by assumption) ?_)
  | ((with_reducible show We _ _ (.Call (.Name "tuple" _) _ _ _) _ _ _); refine b_tup (by walk_at "fam") (by assumption) ?_)
  | ((with_reducible show We _ _ (.Call (.Name "list" _) [.Call (.Name "range" _) _ _ _] _ _) _ _ _); refine we_listRg (by walk_at "fam") (Bt.list (by assumption)) (Bt.range (by assumption)) ?_)
  | ((with_reducible show We _ _ (.Call (.Name "list" _) _ _ _) _ _ _); refine b_lst (by walk_at "fam") (by assumption) ?_)
  | ((with_reducible show We _ _ (.Call (.Name "min" _) [_, _] _ _) _ _ _); refine b_min2 (by walk_at "fam") (by assumption) ?_)
  | ((with_reducible show We _ _ (.Call (.Name "min" _) [_] [_] _) _ _ _); refine we_minDD (by walk_at "fam") (Bt.min (by assumption)) ?_)
  | ((with_reducible show We _ _ (.Call (.Name "min" _) [_] [] _) _ _ _); refine b_min1 (by walk_at "fam") (by assumption) ?_)
  | ((with_reducible show We _ _ (.Call (.Name "sorted" _) _ _ _) _ _ _); refine b_sorted (by walk_at "fam") (by assumption) ?_)
  | ((with_reducible show We _ _ (.Call (.Attribute _ "append" _) _ _ _) _ _ _); refine we_append (by walk_at "fam") ?_)
  | ((with_reducible show We _ _ (.Call (.Name _ _) _ _ _) _ _ _); refine we_call (by walk_at "fam") (by assumption) (by decide) ?_)
  | ((with_reducible show We _ _ (.Call (.Name _ _) _ _ _) _ _ _); refine we_make (by walk_at "fam") (by assumption) (by decide) ?_)
  | ((with_reducible show We _ _ (.Call (.Attribute _ _ _) (_ :: _) _ _) _ _ _); refine we_meth (by walk_at "fam") (by assumption) (by decide) ?_)
  | ((with_reducible show We _ _ (.Call (.Attribute _ _ _) [] _ _) _ _ _); refine we_meth0 (by walk_at "fam") (by assumption) (by decide) ?_))
local macro_rules | `(tactic| walk_at "e") => `(tactic| first
  | ((with_reducible show We _ _ (.Name _ _) _ _ _); first | refine we_varA (by walk_at "fam") (by walk_at "at") (by rfl) ?_ | refine we_gint (by walk_at "fam") (by assumption) ?_)
  | ((with_reducible show We _ _ (.Constant _ _ _) _ _ _); first | refine we_int ?_ | refine we_bl ?_ | refine we_non ?_ | refine we_str ?_)
  | ((with_reducible show We _ _ (.BinOp _ _ _ _) _ _ _); refine we_bin ?_)
  | ((with_reducible show We _ _ (.Compare _ [_] _ _) _ _ _); refine we_cmp ?_)
  | ((with_reducible show We _ _ (.Compare _ [_, _] _ _) _ _ _); refine we_chain ?_)
  | ((with_reducible show We _ _ (.BoolOp _ [_] _) _ _ _); refine we_one ?_)
  | ((with_reducible show We _ _ (.BoolOp .And _ _) _ _ _); refine we_and ?_)
  | ((with_reducible show We _ _ (.BoolOp .Or _ _) _ _ _); refine we_or ?_)
  | ((with_reducible show We _ _ (.UnaryOp .Not _ _) _ _ _); refine we_not ?_)
  | ((with_reducible show We _ _ (.IfExp _ _ _ _) _ _ _); refine we_ifExp ?_)
  | ((with_reducible show We _ _ (.Tuple _ _ _) _ _ _); refine we_tup ?_)
  | ((with_reducible show We _ _ (.List _ _) _ _ _); refine we_lst ?_)
  | ((with_reducible show We _ _ (.Subscript _ (.Slice _ _ _ _) _) _ _ _); refine we_slice (by walk_at "fam") ?_)
  | ((with_reducible show We _ _ (.Subscript _ _ _) _ _ _); refine we_ix ?_)
  | ((with_reducible show We _ _ (.Attribute _ _ _) _ _ _); refine we_fld (by walk_at "fam") ?_)
  | walk_at "call"
  | ((with_reducible show Wo _ _ none _ _ _); refine wo_none ?_)
  | ((with_reducible show Wo _ _ (some _) _ _ _); refine wo_some ?_)
  | ((with_reducible show Wr _ _ [] _ _ _); refine wr_nil ?_)
  | ((with_reducible show Wr _ _ (_ :: _) _ _ _); refine wr_cons ?_)
  | ((with_reducible show Wt _ _ (.UnaryOp .Not _ _) _ _ _); refine wt_not ?_)
  | ((with_reducible show Wt _ _ (.BoolOp .And _ _) _ _ _); refine wt_w (ww_and ?_))
  | ((with_reducible show Wt _ _ (.BoolOp .Or _ _) _ _ _); refine wt_w (ww_or ?_))
  | ((with_reducible show Wt _ _ (.Compare _ [_] _ _) _ _ _); refine wt_cmp ?_)
  | ((with_reducible show Wt _ _ _ _ _ _); refine wt_val ?_)
  | ((with_reducible show Ww _ _ (.BoolOp .And [_] _) _ _ _); refine ww_and1 ?_)
  | ((with_reducible show Ww _ _ (.BoolOp .Or [_] _) _ _ _); refine ww_or1 ?_)
  | ((with_reducible show Ww _ _ (.BoolOp .And _ _) _ _ _); refine ww_and ?_)
  | ((with_reducible show Ww _ _ (.BoolOp .Or _ _) _ _ _); refine ww_or ?_)
  | ((with_reducible show Ws _ _ [] _ _ _); refine ws_nil ?_)
  | ((with_reducible show Ws _ _ (_ :: _) _ _ _); refine ws_cons ?_)
  | ((with_reducible show Ws1 _ _ (.Return (some _) _) _ _ _); refine ws_ret ?_)
  | ((with_reducible show Ws1 _ _ (.If _ _ _ _) _ _ _); refine ws_if ?_)
  | ((with_reducible show Ws1 _ _ (.Expr _ _) _ _ _); refine ws_expr ?_)
  | ((with_reducible show Ws1 _ _ (.Assign [.Name _ _] (.ListComp _ _ _ _) _) _ _ _); fail)
  | ((with_reducible show Ws1 _ _ (.Assign [.Name _ _] _ _) _ _ _); refine ws_setA (by walk_at "fam") (by walk_at "at") ?_)
  | ((with_reducible show Ws1 _ _ (.Assign [.Attribute _ _ _] _ _) _ _ _); refine ws_fld (by walk_at "fam") ?_)
  | ((with_reducible show Ws1 _ _ (.Assign [_] _ _) _ _ _); refine ws_asg ?_)
  | ((with_reducible show Wts _ _ [] _ _ _); refine wts_nil ?_)
  | ((with_reducible show Wts _ _ [_] _ _ _); refine wts_one ?_)
  | ((with_reducible show Wg _ _ _ (.Name _ _) _ _ _ _); refine wg_nameA (by walk_at "fam") (by walk_at "at") ?_)
  | ((with_reducible show Wg _ _ _ (.Tuple _ _ _) _ _ _ _); refine wg_tup (by walk_at "fam") ?_)
  | ((with_reducible show Wg _ _ _ (.Subscript _ _ _) _ _ _ _); refine wg_sub ?_)
  | refine wgs_nil ?_ | refine wgs_cons ?_)
local macro_rules | `(tactic| walk_at "w") => `(tactic| repeat walk_at "e")
abbrev stLaw : Stmt := topS 35
theorem scLaw : FnScope ["_law_script", "_law_deck_here", "_law_houses", "_law_roads_here", "_law_lanes", "_law_up", "_law_known", "_law_fars", "_law_told", "_law_k", "_law_at", "_law_road", "_law_pair"] ["_law_script"] (defScope stLaw) := ⟨rfl, rfl, rfl, by decide +kernel, rfl, by decide +kernel, by decide +kernel⟩
section
variable {ι : Type} {X : ι → Cx} {P : Program} {w : World} {K : PySem.W.Frag} {mg : Str → Option Value} {base : Heap} {N : List Str} {sc : Scope} {fv : Str → Bool} {k : Nat} {ρ : Ro} {m : Mm} {D : Ed} {e : Expr} {pos : Pos}
theorem sw_false {elt : Expr} {gs : List Comprehension} {scope : Scope} {pos py : Pos} {y : Str} {l : Nat} {env : Env} (hy : env.scope.names.lookup y = some .cell) : swapsWith (.ListComp elt gs scope pos) (some (.Name y py)) l env = pure false := by
  have ky : env.kindOf y = some .cell := hy
  have hc : (some NameKind.cell == some NameKind.local) = false := rfl
  unfold swapsWith
  simp only [ky, hc, Bool.and_false, Bool.false_and]
/-- x = [..], x a cell -/
theorem ws_setC (F : Fam X P w K mg base N sc fv k) (i : Nat) {nm : Str} {p' p2 : Pos} {elt : Expr} {gs : List Comprehension} {scope : Scope} (h : We X K (.ListComp elt gs scope p2) ρ m fun x m1 => D.nx (ρ.set i (some x)) m1) (hN : N[i]? = some nm := by rfl) (hl : sc.names.lookup nm = some .cell := by rfl)
    (hf : fv nm = true := by rfl) : Ws1 X K (.Assign [.Name nm p'] (.ListComp elt gs scope p2) pos) ρ m D := fun π G σ H D' hk sk wd =>
  ⟨_, fun j => ps_set (i := i) (by rw [F.cN]; exact F.nd) (by rw [F.cN]; exact hN) (by rw [F.cS]; exact .inr hl) (teOf X (.ListComp elt gs scope p2) j) (sw_false (by rw [F.cS]; exact hl)) (by rw [F.cF]; exact .inl hf),
    h π G σ H _ hk sk fun v x π1 G1 H1 m1 e1 hk1 rv q1 => wd.nx _ _ π1 G1 H1 m1 e1 hk1 ((sk.xt e1).set rv i) q1⟩
end
/-! the roads that are down -/
def dn (us : List Bool) (i : Nat) : List Nat := (List.range i).filter fun k => us[k]? == some false
theorem dn_succ {us : List Bool} {i : Nat} {b : Bool} (h : us[i]? = some b) : dn us (i + 1) = dn us i ++ (if b then [] else [i]) := by
  unfold dn
  rw [List.range_succ, List.filter_append]
  congr 1
  cases b <;> simp [h]
theorem dn_nodup (us : List Bool) (i : Nat) : (dn us i).Nodup := List.filter_sublist.nodup List.nodup_range
theorem dn_mem {us : List Bool} {i k : Nat} : k ∈ dn us i ↔ k < i ∧ us[k]? = some false := by
  unfold dn; simp
structure Dn (us : List Bool) (i : Nat) (st : List Bool) : Prop where
  len : st.length = us.length
  at_ : ∀ k, k < us.length → st[k]? = some (decide (us[k]? = some true ∨ k ∈ (dn us us.length).drop i))
theorem dn_start (us : List Bool) : Dn us 0 (List.replicate us.length true) := ⟨by simp, fun k hk => by
  rw [List.getElem?_replicate, if_pos hk]
  congr 1
  symm
  rw [decide_eq_true_eq, List.drop_zero, dn_mem]
  rw [List.getElem?_eq_getElem hk]
  cases us[k]
  · exact .inr ⟨hk, rfl⟩
  · exact .inl rfl⟩
theorem dn_step {us st : List Bool} {i k : Nat} (h : Dn us i st) (hk : (dn us us.length)[i]? = some k) : st[k]? = some true ∧ Dn us (i + 1) (st.set k false) := by
  have hm := dn_mem.mp (List.mem_of_getElem? hk)
  have ed : (dn us us.length).drop i = k :: (dn us us.length).drop (i + 1) := by
    obtain ⟨hi, e⟩ := List.getElem?_eq_some_iff.mp hk
    rw [List.drop_eq_getElem_cons hi, e]
  have nd : k ∉ (dn us us.length).drop (i + 1) := by
    have := (List.drop_sublist i (dn us us.length)).nodup (dn_nodup us us.length)
    rw [ed] at this
    exact (List.nodup_cons.mp this).1
  refine ⟨?_, ⟨by rw [List.length_set]; exact h.len, fun j hj => ?_⟩⟩
  · rw [h.at_ k hm.1, ed]; simp
  · rw [List.getElem?_set]
    by_cases e : k = j
    · subst e
      rw [if_pos rfl, if_pos (by rw [h.len]; exact hj)]
      congr 1
      symm
      rw [decide_eq_false_iff_not, hm.2]
      simp [nd]
    · rw [if_neg e, h.at_ j hj, ed]
      congr 1
      have : ¬ j = k := fun z => e z.symm
      simp [this]
theorem dn_end {us st : List Bool} (h : Dn us (dn us us.length).length st) : st = us := by
  apply List.ext_getElem?
  intro k
  by_cases hk : k < us.length
  · rw [h.at_ k hk, List.drop_length, List.getElem?_eq_getElem hk]
    cases us[k] <;> simp
  · rw [List.getElem?_eq_none (by rw [h.len]; omega), List.getElem?_eq_none (by omega)]
theorem bls_set (us : List Bool) (k : Nat) (b : Bool) : blsD (us.set k b) = (blsD us).set k (.d (.bool b)) := by unfold blsD; rw [List.map_set]
theorem rowsD_plain : ∀ rs : List Row, PyData.plainAll (rowsD rs) = true
  | [] => rfl
  | _ :: rs => rowsD_plain rs
/-- the store in the law -/
def Ml (CR CF : Addr) (n : Nat) (rs : List Row) (k : Nat) (cs : List Int) (us up : List Bool) (f : Tab) (told : List PyData) : Mm := dk k cs ++ [insR CR n rs 3, .lst (blsD us), .lst (blsD up), insF CF 2 n f, .lst (told.map .d)]
theorem ml_ra {CR CF : Addr} {n : Nat} {rs : List Row} {k : Nat} {cs : List Int} {us up : List Bool} {f : Tab} {told : List PyData} (e : us.length = rs.length) (g : Gr n rs) : Ra CR (Ml CR CF n rs k cs us up f told) 2 n rs us 3 := ⟨rfl, rfl, e, g⟩
def sLaw (xs : List MV) (m : Mm) (Q : QV) : Prop := ∃ ns : List Int, xs = [.s ns] ∧ m = [] ∧ ∀ m', Q (.d (.bool true)) m'
def TwoD (n : Nat) (d : PyData) : Prop := ∃ g : Tab, d = .tuple [tabD n g, tabD n g]
section
variable {P : Program} {w : World} {K : PySem.W.Frag} {mg : Str → Option Value} {base : Heap} {f : Addr} {fd : FuncData} {CR CF : Addr}
theorem ok_law (F : Fun K "law" "law" stLaw f fd) (B : Bt mg) (T : Kc K CR CF) (C1 : Cal P w K mg base 1 "_law_deck" 1 sDeck) (C2 : Cal P w K mg base 1 "_law_draw" 2 sDraw) (C3 : Cal P w K mg base 2 "_law_roads" 2 sRoads)
    (C4 : Cak P w K mg base 5 CR "Roads" (sRi CR)) (C5 : Cak P w K mg base 5 CF "Fars" (sFi CR CF)) (C6 : Cal P w K mg base 1 "_law_shortest" 3 sShort) (C7 : Cal P w K mg base 1 "_law_turned" 4 sLt) (C8 : Cal P w K mg base 5 "_law_stands" 5 (sLs CR CF))
    (M1 : Cam P w K mg base 4 CR "fall" (sRput CR false)) (M2 : Cam P w K mg base 4 CR "rise" (sRput CR true)) (M3 : Cam P w K mg base 4 CF "turn" (sFturn CR CF)) (M4 : Cam P w K mg base 1 CF "rows" (sFrows CF)) : FnOk P w K mg base CX0 7 f fd ["_law_script"] (spM K sLaw) := by
  refine fn_m F scLaw (fun xs m Q h => by obtain ⟨_, rfl, _⟩ := h; rfl) fun X Fm xs m Q ⟨ns, ex, em, q⟩ hs => ?_
  subst ex em
  refine ws_cons ?_
  walk_at "w"
  refine ⟨ns, rfl, rfl, fun cs0 dk0 => ?_⟩
  walk_at "w"
  refine ⟨0, cs0, [], 7, rfl, rfl, dk0.up (by omega), by decide, by decide, fun v cs1 hv dk1 => ?_⟩
  refine o_add ?_
  have en : (2 : Int) + (v : Int) = ((2 + v : Nat) : Int) := by omega
  rw [en]
  generalize hn : 2 + v = n at en ⊢
  walk_at "w"
  refine ⟨1, cs1, [], n, rfl, rfl, dk1, by omega, by omega, by omega, fun rs k2 cs2 gr dk2 hk2 => ?_⟩
  have l14 := gr.len
  walk_at "w"
  refine ⟨dk k2 cs2, n, rs, rfl, rfl, gr, rfl, ?_⟩
  show Ws _ _ _ _ (dk k2 cs2 ++ [insR CR n rs 3, .lst (blsD (List.replicate rs.length true))]) _
  refine ws_cons (ws_setC Fm 5 (we_lc Fm [("_law_road", 11)] (wi_t Fm ?_)))
  walk_at "w"
  refine ⟨rowsD rs, rfl, by simp [rowsD]; omega, fun i acc m' => ∃ (k : Nat) (cs : List Int) (us : List Bool), us.length = i ∧ acc = blsD us ∧ m' = dk k cs ++ [insR CR n rs 3, .lst (blsD (List.replicate rs.length true))] ∧ Dk k cs ∧ k ≤ k2 + i, ⟨k2, cs2, [], rfl, rfl, rfl, dk2, by omega⟩, fun _ _ _ _ _ => trivial, ?_, ?_⟩
  · rintro i x acc m' hx ⟨k, cs, us, rfl, rfl, rfl, dkk, hk⟩
    have hi : us.length < rs.length := by have := (List.getElem?_eq_some_iff.mp hx).1; simpa [rowsD] using this
    walk_at "w"
    refine L2.iteT ?_
    walk_at "w"
    refine ⟨k, cs, _, 5, rfl, rfl, dkk.up (by omega), by decide, by decide, fun v cs3 hv dk3 => ?_⟩
    walk_at "w"
    refine o_gt ?_
    exact ⟨k + 1, cs3, us ++ [decide ((0 : Int) < (v : Int))], by simp, by unfold blsD; rw [List.map_append]; rfl, rfl, dk3, by omega⟩
  rintro acc m' ⟨k3, cs3, us, lu, rfl, rfl, dk3, hk3⟩
  rw [List.length_map] at lu hk3
  have lu : us.length = rs.length := by rw [lu]; simp [rowsD]
  have hk3 : k3 ≤ k2 + rs.length := by simpa [rowsD] using hk3
  refine .inr ?_
  show Ws _ _ _ ([_, _, _, _, _, some (.r 4), _, _, _, _, _, _, _] : Ro) (dk k3 cs3 ++ [insR CR n rs 3, .lst (blsD (List.replicate rs.length true)), .lst (blsD us)]) _
  refine ws_cons (ws_for Fm (wi_l Fm (we_lc Fm [("_law_at", 10)] (wi_range1 Fm B.range ?_))))
  walk_at "w"
  refine ⟨_, rfl, ?_⟩
  walk_at "w"
  refine ⟨_, rfl, by omega, by simp [rowsD]; omega, by rw [rangeM_len]; simp [rowsD]; omega, fun i acc m' => dk k3 cs3 ++ [insR CR n rs 3, .lst (blsD (List.replicate rs.length true)), .lst (blsD us)] = m' ∧ acc = ((dn us i).map fun k : Nat => PyData.int k).map .d, ⟨rfl, rfl⟩, fun _ _ _ _ _ => trivial, ?_, ?_⟩
  · rintro i x acc m' hx ⟨rfl, rfl⟩
    obtain ⟨hi, rfl⟩ := rangeM_some hx
    have hi : i < us.length := by rw [lu]; simpa [rowsD] using hi
    obtain ⟨b, hb⟩ : ∃ b, us[i]? = some b := ⟨us[i], List.getElem?_eq_getElem hi⟩
    rw [Int.zero_add]
    walk_at "w"
    refine ix_w (X := Blk X _) (Fam.blk Fm _) (y := .d (.bool b)) (xs := blsD us) rfl (atI_of (bls_at hb) rfl) ⟨_, rfl, ?_⟩
    cases b with
    | true =>
      refine L2.iteF ?_
      exact ⟨rfl, by rw [dn_succ hb]; simp⟩
    | false =>
      refine L2.iteT ?_
      walk_at "w"
      exact ⟨rfl, by rw [dn_succ hb]; simp⟩
  rintro acc m' ⟨rfl, rfl⟩
  rw [rangeM_len]
  have e1 : Int.toNat (((rowsD rs).map MV.d).length : Nat) = us.length := by rw [lu]; simp [rowsD]
  rw [e1]
  refine .inl ⟨_, rfl, _, rfl, rfl, ?_⟩
  refine ⟨fun i ρ' m' => ∃ (st : List Bool) (u10 : Option MV), ρ' = [some (.s ns), some (.r 1), some (.d (.int n)), some (.d (.tuple (rowsD rs))), some (.r 2), some (.r 4), none, none, none, none, u10, none, none] ∧ m' = dk k3 cs3 ++ [insR CR n rs 3, .lst (blsD st), .lst (blsD us)] ∧ Dn us i st, ⟨_, none, rfl, rfl, by rw [← lu]; exact dn_start us⟩, fun _ _ _ _ _ => rfl, ?_, ?_⟩
  · rintro i x ρ' m' hx ⟨st, u10, rfl, rfl, hd⟩
    rw [List.map_map] at hx
    obtain ⟨k, hk, rfl⟩ := map_get hx
    show Wg _ _ _ _ (.d (.int (k : Nat))) _ _ _
    obtain ⟨h1, h2⟩ := dn_step hd hk
    have hkl := (dn_mem.mp (List.mem_of_getElem? hk)).1
    obtain ⟨r, hr⟩ : ∃ r, rs[k]? = some r := ⟨rs[k]'(by omega), List.getElem?_eq_getElem (by omega)⟩
    walk_at "w"
    refine ⟨2, _, rfl, rfl, rfl, ?_⟩
    walk_at "w"
    refine ix_w Fm rfl (atI_of (rowD_at hr) rfl) ?_
    walk_at "w"
    refine ix_w Fm (y := .d (.int r.a)) (xs := [.d (.int r.a), .d (.int r.b), .d (.int r.d), .d (.int r.s)]) rfl (atI_of (k := 0) rfl rfl) ?_
    walk_at "w"
    refine ix_w Fm rfl (atI_of (rowD_at hr) rfl) ?_
    walk_at "w"
    refine ix_w Fm (y := .d (.int r.b)) (xs := [.d (.int r.a), .d (.int r.b), .d (.int r.d), .d (.int r.s)]) rfl (atI_of (k := 1) rfl rfl) ?_
    walk_at "w"
    refine ⟨2, n, rs, st, 3, r.a, r.b, k, r, rfl, ⟨rfl, rfl, by rw [hd.len, lu], gr⟩, hr, .inl ⟨rfl, rfl⟩, h1, ?_⟩
    walk_at "w"
    exact ⟨st.set k false, _, rfl, rfl, h2⟩
  rintro ρ' m' ⟨st, u10, rfl, rfl, hd⟩
  rw [List.length_map, List.length_map] at hd
  have est := dn_end hd
  subst est
  walk_at "w"
  refine ⟨_, 2, n, rs, st, 3, rfl, rfl, ⟨rfl, rfl, lu, gr⟩, fun g f hg fx => ⟨rfl, ?_⟩⟩
  show Ws _ _ _ ([_, _, _, _, _, _, some (.r 5), _, _, _, _, _, _] : Ro) (dk k3 cs3 ++ [insR CR n rs 3, .lst (blsD st), .lst (blsD st), insF CF 2 n f]) _
  walk_at "w"
  refine ⟨n, rs, _, st, rfl, rfl, lu, gr, fun W hW => ?_⟩
  rw [← tabD_congr (fix_isW gr hg fx hW)]
  walk_at "w"
  refine ⟨by decide, .inr ?_⟩
  show Ws _ _ _ ([_, _, _, _, _, _, _, _, some (.r 6), _, _, _, _] : Ro) (Ml CR CF n rs k3 cs3 st st f []) _
  refine ws_cons (ws_for Fm (wi_range1 Fm B.range ?_))
  walk_at "w"
  refine ⟨k3, cs3, _, 31, rfl, rfl, dk3.up (by omega), by decide, by decide, fun turns cs4 ht dk4 => ?_⟩
  walk_at "w"
  refine ⟨turns, rfl, by omega, by omega, fun i ρ' m' => ∃ (k : Nat) (cs : List Int) (us : List Bool) (f : Tab) (told : List PyData) (u9 u10 : Option MV), ρ' = [some (.s ns), some (.r 1), some (.d (.int n)), some (.d (.tuple (rowsD rs))), some (.r 2), some (.r 4), some (.r 5), some (.d (tabD n f)), some (.r 6), u9, u10, none, none] ∧ m' = Ml CR CF n rs k cs us us f told ∧ us.length = rs.length ∧ Dk k cs ∧ k ≤ k3 + 1 + 2 * i ∧ told.length ≤ i ∧ ∀ d ∈ told, TwoD n d, ⟨k3 + 1, cs4, st, f, [], none, _, rfl, rfl, lu, dk4, by omega, by simp, by simp⟩, fun _ _ _ _ _ => trivial, ?_, ?_⟩
  · rintro i x ρ' m' hx ⟨k, cs, us, f, told, u9, u10, rfl, rfl, lus, dkk, hk, lt, td⟩
    obtain ⟨hi, rfl⟩ := rangeM_some hx
    have hi31 : i < 31 := by omega
    walk_at "e"
    refine ws_cut (fun ρ' m' => ∃ (k' : Nat) (cs : List Int) (us : List Bool) (f : Tab) (u9 u10 : Option MV), ρ' = [some (.s ns), some (.r 1), some (.d (.int n)), some (.d (.tuple (rowsD rs))), some (.r 2), some (.r 4), some (.r 5), some (.d (tabD n f)), some (.r 6), u9, u10, none, none] ∧ m' = Ml CR CF n rs k' cs us us f told ∧ us.length = rs.length ∧ Dk k' cs ∧ k' ≤ k + 2) ?_ ?_
    · walk_at "w"
      refine ⟨[], rfl, by decide, ?_⟩
      refine o_eq Fm rfl rfl (rowsD_plain rs) rfl (by simp [PyData.depth, PyData.depthAll]) ⟨_, rfl, ?_⟩
      by_cases h0 : rs = []
      · have e0 : PyData.eqv (.tuple (rowsD rs)) (.tuple []) = true := by rw [h0]; rfl
        rw [e0]
        refine L2.iteT (L2.iteT ?_)
        walk_at "w"
        refine ⟨5, _, rfl, rfl, rfl, ?_⟩
        refine ⟨5, 2, n, f, rs, us, 3, rfl, rfl, ml_ra lus gr, fun g hg => ?_⟩
        walk_at "w"
        refine ⟨n, rs, _, us, f, rfl, rfl, lus, gr, fun V hV => ?_⟩
        rw [tabD_congr (isTn_same gr hg hV)]
        walk_at "w"
        exact ⟨k, cs, us, Tn g f, _, _, rfl, rfl, lus, dkk, by omega⟩
      · have e0 : PyData.eqv (.tuple (rowsD rs)) (.tuple []) = false := by
          cases rs with
          | nil => exact absurd rfl h0
          | cons r rs => rfl
        have l0 : 0 < rs.length := List.length_pos_iff.mpr h0
        rw [e0]
        refine L2.iteF ?_
        walk_at "w"
        refine ⟨k, cs, _, 3, rfl, rfl, dkk.up (by omega), by decide, by decide, fun v cs1 hv dk1 => ?_⟩
        walk_at "w"
        refine o_gt ⟨_, rfl, ?_⟩
        by_cases hv0 : (0 : Int) < (v : Int)
        · rw [decide_eq_true hv0]
          refine L2.iteT ?_
          walk_at "w"
          refine ⟨5, _, rfl, rfl, rfl, ?_⟩
          refine ⟨5, 2, n, f, rs, us, 3, rfl, rfl, ml_ra lus gr, fun g hg => ?_⟩
          walk_at "w"
          refine ⟨n, rs, _, us, f, rfl, rfl, lus, gr, fun V hV => ?_⟩
          rw [tabD_congr (isTn_same gr hg hV)]
          walk_at "w"
          exact ⟨k + 1, cs1, us, Tn g f, _, _, rfl, rfl, lus, dk1, by omega⟩
        · rw [decide_eq_false hv0]
          refine L2.iteF ?_
          walk_at "w"
          refine ⟨_, rfl, ?_⟩
          walk_at "w"
          refine ⟨k + 1, cs1, _, ((rowsD rs).map MV.d).length, rfl, rfl, dk1.up (by omega), by simp [rowsD]; omega, by simp [rowsD]; omega, fun at_ cs2 hat dk2 => ?_⟩
          have hat : at_ < rs.length := by simpa [rowsD] using hat
          obtain ⟨r, hr⟩ : ∃ r, rs[at_]? = some r := ⟨rs[at_]'hat, List.getElem?_eq_getElem hat⟩
          obtain ⟨b, hb⟩ : ∃ b, us[at_]? = some b := ⟨us[at_]'(by omega), List.getElem?_eq_getElem (by omega)⟩
          walk_at "w"
          refine ix_w Fm (y := .d (.bool b)) (xs := blsD us) rfl (atI_of (bls_at hb) rfl) ⟨_, rfl, ?_⟩
          cases b with
          | true =>
            refine L2.iteT ?_
            walk_at "w"
            refine ⟨2, _, rfl, rfl, rfl, ?_⟩
            walk_at "w"
            refine ix_w Fm rfl (atI_of (rowD_at hr) rfl) ?_
            walk_at "w"
            refine ix_w Fm (y := .d (.int r.a)) (xs := [.d (.int r.a), .d (.int r.b), .d (.int r.d), .d (.int r.s)]) rfl (atI_of (k := 0) rfl rfl) ?_
            walk_at "w"
            refine ix_w Fm rfl (atI_of (rowD_at hr) rfl) ?_
            walk_at "w"
            refine ix_w Fm (y := .d (.int r.b)) (xs := [.d (.int r.a), .d (.int r.b), .d (.int r.d), .d (.int r.s)]) rfl (atI_of (k := 1) rfl rfl) ?_
            walk_at "w"
            refine ⟨2, n, rs, us, 3, r.a, r.b, at_, r, rfl, ml_ra lus gr, hr, .inl ⟨rfl, rfl⟩, hb, ?_⟩
            walk_at "w"
            refine ix_w Fm (y := .d (.bool true)) (xs := blsD us) rfl (atI_of (bls_at hb) rfl) ⟨_, rfl, ?_⟩
            walk_at "w"
            refine setw_list (i := 4) (xs := blsD us) (k := at_) rfl (ixN_of (by simp [blsD]; omega) rfl) ?_
            walk_at "w"
            exact ⟨k + 2, cs2, us.set at_ false, f, _, _, rfl, by unfold Ml; rw [bls_set]; rfl, by rw [List.length_set]; exact lus, dk2, by omega⟩
          | false =>
            refine L2.iteF ?_
            walk_at "w"
            refine ⟨2, _, rfl, rfl, rfl, ?_⟩
            walk_at "w"
            refine ix_w Fm rfl (atI_of (rowD_at hr) rfl) ?_
            walk_at "w"
            refine ix_w Fm (y := .d (.int r.b)) (xs := [.d (.int r.a), .d (.int r.b), .d (.int r.d), .d (.int r.s)]) rfl (atI_of (k := 1) rfl rfl) ?_
            walk_at "w"
            refine ix_w Fm rfl (atI_of (rowD_at hr) rfl) ?_
            walk_at "w"
            refine ix_w Fm (y := .d (.int r.a)) (xs := [.d (.int r.a), .d (.int r.b), .d (.int r.d), .d (.int r.s)]) rfl (atI_of (k := 0) rfl rfl) ?_
            walk_at "w"
            refine ⟨2, n, rs, us, 3, r.b, r.a, at_, r, rfl, ml_ra lus gr, hr, .inr ⟨rfl, rfl⟩, hb, ?_⟩
            walk_at "w"
            refine ix_w Fm (y := .d (.bool false)) (xs := blsD us) rfl (atI_of (bls_at hb) rfl) ⟨_, rfl, ?_⟩
            walk_at "w"
            refine setw_list (i := 4) (xs := blsD us) (k := at_) rfl (ixN_of (by simp [blsD]; omega) rfl) ?_
            walk_at "w"
            exact ⟨k + 2, cs2, us.set at_ true, f, _, _, rfl, by unfold Ml; rw [bls_set]; rfl, by rw [List.length_set]; exact lus, dk2, by omega⟩
    · rintro ρ' m' ⟨k', cs', us', f', u9', u10', rfl, rfl, lus', dkk', hk'⟩
      walk_at "w"
      refine ⟨5, 2, n, f', f', rs, us', 3, .r 4, rfl, rfl, ml_ra lus' gr, fun _ _ _ _ => rfl, rfl, _, rfl, L2.iteF ?_⟩
      walk_at "w"
      refine ⟨6, _, rfl, rfl, ?_⟩
      walk_at "w"
      refine ⟨5, _, rfl, rfl, rfl, ?_⟩
      refine ⟨5, 2, n, f', rfl, rfl, ?_⟩
      walk_at "w"
      refine ⟨[tabD n f', tabD n f'], rfl, by show 2 ≤ 1000; decide, _, rfl, by simp; omega, ?_⟩
      walk_at "w"
      refine ⟨k', cs', us', f', told ++ [.tuple [tabD n f', tabD n f']], _, _, rfl, by unfold Ml; rw [List.map_append]; rfl, lus', dkk', by omega, by simp; omega, fun d hd => ?_⟩
      rcases List.mem_append.mp hd with hd | hd
      · exact td d hd
      · simp at hd; exact ⟨f', hd⟩
  · rintro ρ' m' ⟨k, cs, us, f, told, u9, u10, rfl, rfl, lus, dkk, hk, lt, td⟩
    rw [rangeM_len] at lt
    refine ws_cons (ws_if (wt_cmp (we_lc Fm [("_law_pair", 12)] (wi_l Fm ?_))))
    walk_at "w"
    refine ⟨told.map .d, rfl, rfl, by simp; omega, fun i acc m' => Ml CR CF n rs k cs us us f told = m' ∧ acc = [], ⟨rfl, rfl⟩, fun _ _ _ _ h => by rw [← h.1]; rfl, ?_, ?_⟩
    · rintro i x acc m' hx ⟨rfl, rfl⟩
      obtain ⟨d, hd, rfl⟩ := map_get hx
      obtain ⟨g, rfl⟩ := td d (List.mem_of_getElem? hd)
      walk_at "w"
      refine ix_w (X := Blk X _) (Fam.blk Fm _) (y := .d (tabD n g)) (xs := [.d (tabD n g), .d (tabD n g)]) rfl (atI_of (k := 0) rfl rfl) ?_
      walk_at "w"
      refine ix_w (X := Blk X _) (Fam.blk Fm _) (y := .d (tabD n g)) (xs := [.d (tabD n g), .d (tabD n g)]) rfl (atI_of (k := 1) rfl rfl) ?_
      refine o_ne (X := Blk X _) (Fam.blk Fm _) rfl rfl (tab_plain n g) (tab_plain n g) (by have := tab_depth n g; omega) ⟨_, rfl, ?_⟩
      rw [(tab_eqv n g g).mpr fun _ _ _ _ => rfl]
      refine L2.iteF ?_
      exact ⟨rfl, rfl⟩
    rintro acc m' ⟨rfl, rfl⟩
    refine .inl ⟨[], rfl, ?_⟩
    walk_at "w"
    refine ⟨by decide, .inl ⟨[], rfl, ?_⟩⟩
    refine o_ne Fm rfl rfl rfl rfl (by simp [PyData.depth, PyData.depthAll]) ⟨_, rfl, L2.iteF ?_⟩
    walk_at "w"
    refine ⟨5, 2, n, f, f, rs, us, 3, .r 4, rfl, rfl, ml_ra lus gr, fun _ _ _ _ => rfl, rfl, ?_⟩
    exact .inl (q _)
end

end Wn
set_option Elab.async false
set_option linter.all false
set_option maxRecDepth 100000
set_option maxHeartbeats 2000000
set_option autoImplicit false
set_option pp.maxSteps 600
namespace Wn
open PySem L2
local macro_rules | `(tactic| walk_at "fam") => `(tactic| first | assumption | exact Fam.blk (by assumption) _ | exact Fam.blk (Fam.blk (by assumption) _) _)
local macro_rules | `(tactic| walk_at "at") => `(tactic| with_reducible first | exact At.z | exact At.s At.z | exact At.s (At.s At.z) | exact At.s (At.s (At.s At.z)) | exact At.s (At.s (At.s (At.s At.z))) | exact At.s (At.s (At.s (At.s (At.s At.z)))) | exact At.s (At.s (At.s (At.s (At.s (At.s At.z))))) | exact At.s (At.s (At.s (At.s (At.s (At.s (At.s At.z)))))) | exact At.s (At.s (At.s (At.s (At.s (At.s (At.s (At.s At.z))))))) | exact At.s (At.s (At.s (At.s (At.s (At.s (At.s (At.s (At.s At.z)))))))) | exact At.s (At.s (At.s (At.s (At.s (At.s (At.s (At.s (At.s (At.s At.z))))))))) | exact At.s (At.s (At.s (At.s (At.s (At.s (At.s (At.s (At.s (At.s (At.s At.z)))))))))) | exact At.s (At.s (At.s (At.s (At.s (At.s (At.s (At.s (At.s (At.s (At.s (At.s At.z))))))))))) | exact At.s (At.s (At.s (At.s (At.s (At.s (At.s (At.s (At.s (At.s (At.s (At.s (At.s At.z)))))))))))) | exact At.s (At.s (At.s (At.s (At.s (At.s (At.s (At.s (At.s (At.s (At.s (At.s (At.s (At.s At.z))))))))))))) | exact At.s (At.s (At.s (At.s (At.s (At.s (At.s (At.s (At.s (At.s (At.s (At.s (At.s (At.s (At.s At.z)))))))))))))) | exact At.s (At.s (At.s (At.s (At.s (At.s (At.s (At.s (At.s (At.s (At.s (At.s (At.s (At.s (At.s (At.s At.z))))))))))))))) | exact At.s (At.s (At.s (At.s (At.s (At.s (At.s (At.s (At.s (At.s (At.s (At.s (At.s (At.s (At.s (At.s (At.s At.z)))))))))))))))) | exact At.s (At.s (At.s (At.s (At.s (At.s (At.s (At.s (At.s (At.s (At.s (At.s (At.s (At.s (At.s (At.s (At.s (At.s At.z))))))))))))))))) | exact At.s (At.s (At.s (At.s (At.s (At.s (At.s (At.s (At.s (At.s (At.s (At.s (At.s (At.s (At.s (At.s (At.s (At.s (At.s At.z)))))))))))))))))) | exact At.s (At.s (At.s (At.s (At.s (At.s (At.s (At.s (At.s (At.s (At.s (At.s (At.s (At.s (At.s (At.s (At.s (At.s (At.s (At.s At.z))))))))))))))))))) | exact At.s (At.s (At.s (At.s (At.s (At.s (At.s (At.s (At.s (At.s (At.s (At.s (At.s (At.s (At.s (At.s (At.s (At.s (At.s (At.s (At.s At.z)))))))))))))))))))))
local macro_rules | `(tactic| walk_at "call") => `(tactic| first
  | ((with_reducible show We _ _ (.Call (.Name "len" _) _ _ _) _ _ _); refine b_len (by walk_at "fam") (by assumption) ?_)
  | ((with_reducible show We _ _ (.Call (.Name "isinstance" _) [_, .Name "int" _] _ _) _ _ _); refine b_isiInt (by walk_at "fam") (by assumption) ?_)
  | ((with_reducible show We _ _ (.Call (.Name "isinstance" _) [_, .Name "bool" _] _ _) _ _ _); refine b_isiBool (by walk_at "fam") (by assumption) ?_)
  | ((with_reducible show We _ _ (.Call (.Name "isinstance" _) [_, .Name "tuple" _] _ _) _ _ _); refine b_isiTup (by walk_at "fam") (by assumption) ?_)
  | ((with_reducible show We _ _ (.Call (.Name "abs" _) _ _ _) _ _ _); refine b_abs (by walk_at "fam") (by assumption) ?_)
  | ((with_reducible show We _ _ (.Call (.Name "int" _) _ _ _) _ _ _); refine b_intB (by walk_at "fam") (by assumption) ?_)
  | ((with_reducible show We _ _ (.Call (.Name "tuple" _) _ _ _) _ _ _); refine b_tup (by walk_at "fam") (by assumption) ?_)
  | ((with_reducible show We _ _ (.Call (.Name "list" _) [.Call (.Name "range" _) _ _ _] _ _) _ _ _); refine we_listRg (by walk_at "fam") (Bt.list (by assumption)) (Bt.range (by assumption)) ?_)
  | ((with_reducible show We _ _ (.Call (.Name "list" _) _ _ _) _ _ _); refine b_lst (by walk_at "fam") (by assumption) ?_)
  | ((with_reducible show We _ _ (.Call (.Name "min" _) [_, _] _ _) _ _ _); refine b_min2 (by walk_at "fam") (by assumption) ?_)
  | ((with_reducible show We _ _ (.Call (.Name "min" _) [_] [_] _) _ _ _); refine we_minDD (by walk_at "fam") (Bt.min (by assumption)) ?_)
  | ((with_reducible show We _ _ (.Call (.Name "min" _) [_] [] _) _ _ _); refine b_min1 (by walk_at "fam") (by assumption) ?_)
  | ((with_reducible show We _ _ (.Call (.Name "sorted" _) _ _ _) _ _ _); refine b_sorted (by walk_at "fam") (by assumption) ?_)
  | ((with_reducible show We _ _ (.Call (.Attribute _ "append" _) _ _ _) _ _ _); refine we_append (by walk_at "fam") ?_)
  | ((with_reducible show We _ _ (.Call (.Name _ _) _ _ _) _ _ _); refine we_call (by walk_at "fam") (by assumption) (by decide) ?_)
  | ((with_reducible show We _ _ (.Call (.Name _ _) _ _ _) _ _ _); refine we_make (by walk_at "fam") (by assumption) (by decide) ?_)
  | ((with_reducible show We _ _ (.Call (.Attribute _ _ _) (_ :: _) _ _) _ _ _); refine we_meth (by walk_at "fam") (by assumption) (by decide) ?_)
  | ((with_reducible show We _ _ (.Call (.Attribute _ _ _) [] _ _) _ _ _); refine we_meth0 (by walk_at "fam") (by assumption) (by decide) ?_))
local macro_rules | `(tactic| walk_at "e") => `(tactic| first
  | ((with_reducible show We _ _ (.Name _ _) _ _ _); first | refine we_varA (by walk_at "fam") (by walk_at "at") (by rfl) ?_ | refine we_gint (by walk_at "fam") (by assumption) ?_)
  | ((with_reducible show We _ _ (.Constant _ _ _) _ _ _); first | refine we_int ?_ | refine we_bl ?_ | refine we_non ?_ | refine we_str ?_)
  | ((with_reducible show We _ _ (.BinOp _ _ _ _) _ _ _); refine we_bin ?_)
  | ((with_reducible show We _ _ (.Compare _ [_] _ _) _ _ _); refine we_cmp ?_)
  | ((with_reducible show We _ _ (.Compare _ [_, _] _ _) _ _ _); refine we_chain ?_)
  | ((with_reducible show We _ _ (.BoolOp _ [_] _) _ _ _); refine we_one ?_)
  | ((with_reducible show We _ _ (.BoolOp .And _ _) _ _ _); refine we_and ?_)
  | ((with_reducible show We _ _ (.BoolOp .Or _ _) _ _ _); refine we_or ?_)
  | ((with_reducible show We _ _ (.UnaryOp .Not _ _) _ _ _); refine we_not ?_)
  | ((with_reducible show We _ _ (.IfExp _ _ _ _) _ _ _); refine we_ifExp ?_)
  | ((with_reducible show We _ _ (.Tuple _ _ _) _ _ _); refine we_tup ?_)
  | ((with_reducible show We _ _ (.List _ _) _ _ _); refine we_lst ?_)
  | ((with_reducible show We _ _ (.Subscript _ (.Slice _ _ _ _) _) _ _ _); refine we_slice (by walk_at "fam") ?_)
  | ((with_reducible show We _ _ (.Subscript _ _ _) _ _ _); refine we_ix ?_)
  | ((with_reducible show We _ _ (.Attribute _ _ _) _ _ _); refine we_fld (by walk_at "fam") ?_)
  | walk_at "call"
  | ((with_reducible show Wo _ _ none _ _ _); refine wo_none ?_)
  | ((with_reducible show Wo _ _ (some _) _ _ _); refine wo_some ?_)
  | ((with_reducible show Wr _ _ [] _ _ _); refine wr_nil ?_)
  | ((with_reducible show Wr _ _ (_ :: _) _ _ _); refine wr_cons ?_)
  | ((with_reducible show Wt _ _ (.UnaryOp .Not _ _) _ _ _); refine wt_not ?_)
  | ((with_reducible show Wt _ _ (.BoolOp .And _ _) _ _ _); refine wt_w (ww_and ?_))
  | ((with_reducible show Wt _ _ (.BoolOp .Or _ _) _ _ _); refine wt_w (ww_or ?_))
  | ((with_reducible show Wt _ _ (.Compare _ [_] _ _) _ _ _); refine wt_cmp ?_)
  | ((with_reducible show Wt _ _ _ _ _ _); refine wt_val ?_)
  | ((with_reducible show Ww _ _ (.BoolOp .And [_] _) _ _ _); refine ww_and1 ?_)
  | ((with_reducible show Ww _ _ (.BoolOp .Or [_] _) _ _ _); refine ww_or1 ?_)
  | ((with_reducible show Ww _ _ (.BoolOp .And _ _) _ _ _); refine ww_and ?_)
  | ((with_reducible show Ww _ _ (.BoolOp .Or _ _) _ _ _); refine ww_or ?_)
  | ((with_reducible show Ws _ _ [] _ _ _); refine ws_nil ?_)
  | ((with_reducible show Ws _ _ (_ :: _) _ _ _); refine ws_cons ?_)
  | ((with_reducible show Ws1 _ _ (.Return (some _) _) _ _ _); refine ws_ret ?_)
  | ((with_reducible show Ws1 _ _ (.If _ _ _ _) _ _ _); refine ws_if ?_)
  | ((with_reducible show Ws1 _ _ (.Expr _ _) _ _ _); refine ws_expr ?_)
  | ((with_reducible show Ws1 _ _ (.Assign [.Name _ _] (.ListComp _ _ _ _) _) _ _ _); fail)
  | ((with_reducible show Ws1 _ _ (.Assign [.Name _ _] _ _) _ _ _); refine ws_setA (by walk_at "fam") (by walk_at "at") ?_)
  | ((with_reducible show Ws1 _ _ (.Assign [.Attribute _ _ _] _ _) _ _ _); refine ws_fld (by walk_at "fam") ?_)
  | ((with_reducible show Ws1 _ _ (.Assign [_] _ _) _ _ _); refine ws_asg ?_)
  | ((with_reducible show Wts _ _ [] _ _ _); refine wts_nil ?_)
  | ((with_reducible show Wts _ _ [_] _ _ _); refine wts_one ?_)
  | ((with_reducible show Wg _ _ _ (.Name _ _) _ _ _ _); refine wg_nameA (by walk_at "fam") (by walk_at "at") ?_)
  | ((with_reducible show Wg _ _ _ (.Tuple _ _ _) _ _ _ _); refine wg_tup (by walk_at "fam") ?_)
  | ((with_reducible show Wg _ _ _ (.Subscript _ _ _) _ _ _ _); refine wg_sub ?_)
  | refine wgs_nil ?_ | refine wgs_cons ?_)
local macro_rules | `(tactic| walk_at "w") => `(tactic| repeat walk_at "e")
theorem all_mk {l : PySem.W.OpenLaw} {w : World} {K : PySem.W.Frag} {h : Heap} {mg : Str → Option Value} {fa : Addr} (X : K.In h) (G : h.Ns mainGlobals mg) (hfa : mg "law" = some (.ref fa))
    {f_w f_wi f_ol f_ir f_fi f_ne f_sp f_tf f_tu f_se f_dc f_dr f_ro f_sh f_lt f_ln f_ls f_law f_Ri f_Rp f_Rc f_Rf f_Rr f_Rn f_Fi f_Fn f_Fh f_Ff f_Fr f_Ft f_Fx CR CF : Addr} {od_w an_w od_wi an_wi od_ol an_ol od_ir an_ir od_fi an_fi od_ne an_ne od_sp an_sp od_tf an_tf od_tu an_tu od_se an_se od_dc an_dc od_dr an_dr od_ro an_ro od_sh an_sh od_lt an_lt od_ln an_ln od_ls an_ls od_law an_law od_Ri an_Ri od_Rp an_Rp od_Rc an_Rc od_Rf an_Rf od_Rr an_Rr od_Rn an_Rn od_Fi an_Fi od_Fn an_Fn od_Fh an_Fh od_Ff an_Ff od_Fr an_Fr od_Ft an_Ft od_Fx an_Fx : Option Addr} {sl_w sl_wi sl_ol sl_ir sl_fi sl_ne sl_sp sl_tf sl_tu sl_se sl_dc sl_dr sl_ro sl_sh sl_lt sl_ln sl_ls sl_law sl_Ri sl_Rp sl_Rc sl_Rf sl_Rr sl_Rn sl_Fi sl_Fn sl_Fh sl_Ff sl_Fr sl_Ft sl_Fx : Array (Option Value)} {oc_w kV_w dc_w pm_w cd_w ct_w oc_wi kV_wi dc_wi pm_wi cd_wi ct_wi oc_ol kV_ol dc_ol pm_ol cd_ol ct_ol oc_ir kV_ir dc_ir pm_ir cd_ir ct_ir oc_fi kV_fi dc_fi pm_fi cd_fi ct_fi oc_ne kV_ne dc_ne pm_ne cd_ne ct_ne oc_sp kV_sp dc_sp pm_sp cd_sp ct_sp oc_tf kV_tf dc_tf pm_tf cd_tf ct_tf oc_tu kV_tu dc_tu pm_tu cd_tu ct_tu oc_se kV_se dc_se pm_se cd_se ct_se oc_dc kV_dc dc_dc pm_dc cd_dc ct_dc oc_dr kV_dr dc_dr pm_dr cd_dr ct_dr oc_ro kV_ro dc_ro pm_ro cd_ro ct_ro oc_sh kV_sh dc_sh pm_sh cd_sh ct_sh oc_lt kV_lt dc_lt pm_lt cd_lt ct_lt oc_ln kV_ln dc_ln pm_ln cd_ln ct_ln oc_ls kV_ls dc_ls pm_ls cd_ls ct_ls oc_law kV_law dc_law pm_law cd_law ct_law oc_Ri kV_Ri dc_Ri pm_Ri cd_Ri ct_Ri oc_Rp kV_Rp dc_Rp pm_Rp cd_Rp ct_Rp oc_Rc kV_Rc dc_Rc pm_Rc cd_Rc ct_Rc oc_Rf kV_Rf dc_Rf pm_Rf cd_Rf ct_Rf oc_Rr kV_Rr dc_Rr pm_Rr cd_Rr ct_Rr oc_Rn kV_Rn dc_Rn pm_Rn cd_Rn ct_Rn oc_Fi kV_Fi dc_Fi pm_Fi cd_Fi ct_Fi oc_Fn kV_Fn dc_Fn pm_Fn cd_Fn ct_Fn oc_Fh kV_Fh dc_Fh pm_Fh cd_Fh ct_Fh oc_Ff kV_Ff dc_Ff pm_Ff cd_Ff ct_Ff oc_Fr kV_Fr dc_Fr pm_Fr cd_Fr ct_Fr oc_Ft kV_Ft dc_Ft pm_Ft cd_Ft ct_Ft oc_Fx kV_Fx dc_Fx pm_Fx cd_Fx ct_Fx : Value} {t_HOUSES t_ROADS t_DELAY t_NARROW t_WIDE t_FAR : Tok}
    (aR : PySem.W.nsIn K mainGlobals "Roads" = some (some (.ref CR)))
    (aF : PySem.W.nsIn K mainGlobals "Fars" = some (some (.ref CF)))
    (a_w : PySem.W.nsIn K mainGlobals "is_whole" = some (some (.ref f_w)))
    (l_w : K.lookup f_w = some ⟨oc_w, od_w, .func (PySem.W.fnOf "is_whole" "is_whole" (defArgs stIsWhole) (defBody stIsWhole) (defScope stIsWhole) .none kV_w dc_w pm_w an_w cd_w ct_w), sl_w⟩)
    (c_w : PySem.W.codeIn K cd_w "is_whole" = true)
    (k_w : PySem.W.keepIn K (.ref f_w) = true)
    (a_wi : PySem.W.nsIn K mainGlobals "is_whole_within" = some (some (.ref f_wi)))
    (l_wi : K.lookup f_wi = some ⟨oc_wi, od_wi, .func (PySem.W.fnOf "is_whole_within" "is_whole_within" (defArgs stWithin) (defBody stWithin) (defScope stWithin) .none kV_wi dc_wi pm_wi an_wi cd_wi ct_wi), sl_wi⟩)
    (c_wi : PySem.W.codeIn K cd_wi "is_whole_within" = true)
    (k_wi : PySem.W.keepIn K (.ref f_wi) = true)
    (a_ol : PySem.W.nsIn K mainGlobals "is_outline" = some (some (.ref f_ol)))
    (l_ol : K.lookup f_ol = some ⟨oc_ol, od_ol, .func (PySem.W.fnOf "is_outline" "is_outline" (defArgs stOutline) (defBody stOutline) (defScope stOutline) .none kV_ol dc_ol pm_ol an_ol cd_ol ct_ol), sl_ol⟩)
    (c_ol : PySem.W.codeIn K cd_ol "is_outline" = true)
    (k_ol : PySem.W.keepIn K (.ref f_ol) = true)
    (a_ir : PySem.W.nsIn K mainGlobals "is_road" = some (some (.ref f_ir)))
    (l_ir : K.lookup f_ir = some ⟨oc_ir, od_ir, .func (PySem.W.fnOf "is_road" "is_road" (defArgs stIsRoad) (defBody stIsRoad) (defScope stIsRoad) .none kV_ir dc_ir pm_ir an_ir cd_ir ct_ir), sl_ir⟩)
    (c_ir : PySem.W.codeIn K cd_ir "is_road" = true)
    (k_ir : PySem.W.keepIn K (.ref f_ir) = true)
    (a_fi : PySem.W.nsIn K mainGlobals "first_wrong_road" = some (some (.ref f_fi)))
    (l_fi : K.lookup f_fi = some ⟨oc_fi, od_fi, .func (PySem.W.fnOf "first_wrong_road" "first_wrong_road" (defArgs stFirst) (defBody stFirst) (defScope stFirst) .none kV_fi dc_fi pm_fi an_fi cd_fi ct_fi), sl_fi⟩)
    (c_fi : PySem.W.codeIn K cd_fi "first_wrong_road" = true)
    (k_fi : PySem.W.keepIn K (.ref f_fi) = true)
    (a_ne : PySem.W.nsIn K mainGlobals "neighbours_by" = some (some (.ref f_ne)))
    (l_ne : K.lookup f_ne = some ⟨oc_ne, od_ne, .func (PySem.W.fnOf "neighbours_by" "neighbours_by" (defArgs stNeigh) (defBody stNeigh) (defScope stNeigh) .none kV_ne dc_ne pm_ne an_ne cd_ne ct_ne), sl_ne⟩)
    (c_ne : PySem.W.codeIn K cd_ne "neighbours_by" = true)
    (k_ne : PySem.W.keepIn K (.ref f_ne) = true)
    (a_sp : PySem.W.nsIn K mainGlobals "steps_to" = some (some (.ref f_sp)))
    (l_sp : K.lookup f_sp = some ⟨oc_sp, od_sp, .func (PySem.W.fnOf "steps_to" "steps_to" (defArgs stSteps) (defBody stSteps) (defScope stSteps) .none kV_sp dc_sp pm_sp an_sp cd_sp ct_sp), sl_sp⟩)
    (c_sp : PySem.W.codeIn K cd_sp "steps_to" = true)
    (k_sp : PySem.W.keepIn K (.ref f_sp) = true)
    (a_tf : PySem.W.nsIn K mainGlobals "turned_far" = some (some (.ref f_tf)))
    (l_tf : K.lookup f_tf = some ⟨oc_tf, od_tf, .func (PySem.W.fnOf "turned_far" "turned_far" (defArgs stTf) (defBody stTf) (defScope stTf) .none kV_tf dc_tf pm_tf an_tf cd_tf ct_tf), sl_tf⟩)
    (c_tf : PySem.W.codeIn K cd_tf "turned_far" = true)
    (k_tf : PySem.W.keepIn K (.ref f_tf) = true)
    (a_tu : PySem.W.nsIn K mainGlobals "turned" = some (some (.ref f_tu)))
    (l_tu : K.lookup f_tu = some ⟨oc_tu, od_tu, .func (PySem.W.fnOf "turned" "turned" (defArgs stTurned) (defBody stTurned) (defScope stTurned) .none kV_tu dc_tu pm_tu an_tu cd_tu ct_tu), sl_tu⟩)
    (c_tu : PySem.W.codeIn K cd_tu "turned" = true)
    (k_tu : PySem.W.keepIn K (.ref f_tu) = true)
    (a_se : PySem.W.nsIn K mainGlobals "settled" = some (some (.ref f_se)))
    (l_se : K.lookup f_se = some ⟨oc_se, od_se, .func (PySem.W.fnOf "settled" "settled" (defArgs stSettled) (defBody stSettled) (defScope stSettled) .none kV_se dc_se pm_se an_se cd_se ct_se), sl_se⟩)
    (c_se : PySem.W.codeIn K cd_se "settled" = true)
    (k_se : PySem.W.keepIn K (.ref f_se) = true)
    (a_dc : PySem.W.nsIn K mainGlobals "_law_deck" = some (some (.ref f_dc)))
    (l_dc : K.lookup f_dc = some ⟨oc_dc, od_dc, .func (PySem.W.fnOf "_law_deck" "_law_deck" (defArgs stDeck) (defBody stDeck) (defScope stDeck) .none kV_dc dc_dc pm_dc an_dc cd_dc ct_dc), sl_dc⟩)
    (c_dc : PySem.W.codeIn K cd_dc "_law_deck" = true)
    (k_dc : PySem.W.keepIn K (.ref f_dc) = true)
    (a_dr : PySem.W.nsIn K mainGlobals "_law_draw" = some (some (.ref f_dr)))
    (l_dr : K.lookup f_dr = some ⟨oc_dr, od_dr, .func (PySem.W.fnOf "_law_draw" "_law_draw" (defArgs stDraw) (defBody stDraw) (defScope stDraw) .none kV_dr dc_dr pm_dr an_dr cd_dr ct_dr), sl_dr⟩)
    (c_dr : PySem.W.codeIn K cd_dr "_law_draw" = true)
    (k_dr : PySem.W.keepIn K (.ref f_dr) = true)
    (a_ro : PySem.W.nsIn K mainGlobals "_law_roads" = some (some (.ref f_ro)))
    (l_ro : K.lookup f_ro = some ⟨oc_ro, od_ro, .func (PySem.W.fnOf "_law_roads" "_law_roads" (defArgs stRoads) (defBody stRoads) (defScope stRoads) .none kV_ro dc_ro pm_ro an_ro cd_ro ct_ro), sl_ro⟩)
    (c_ro : PySem.W.codeIn K cd_ro "_law_roads" = true)
    (k_ro : PySem.W.keepIn K (.ref f_ro) = true)
    (a_sh : PySem.W.nsIn K mainGlobals "_law_shortest" = some (some (.ref f_sh)))
    (l_sh : K.lookup f_sh = some ⟨oc_sh, od_sh, .func (PySem.W.fnOf "_law_shortest" "_law_shortest" (defArgs stShort) (defBody stShort) (defScope stShort) .none kV_sh dc_sh pm_sh an_sh cd_sh ct_sh), sl_sh⟩)
    (c_sh : PySem.W.codeIn K cd_sh "_law_shortest" = true)
    (k_sh : PySem.W.keepIn K (.ref f_sh) = true)
    (a_lt : PySem.W.nsIn K mainGlobals "_law_turned" = some (some (.ref f_lt)))
    (l_lt : K.lookup f_lt = some ⟨oc_lt, od_lt, .func (PySem.W.fnOf "_law_turned" "_law_turned" (defArgs stLt) (defBody stLt) (defScope stLt) .none kV_lt dc_lt pm_lt an_lt cd_lt ct_lt), sl_lt⟩)
    (c_lt : PySem.W.codeIn K cd_lt "_law_turned" = true)
    (k_lt : PySem.W.keepIn K (.ref f_lt) = true)
    (a_ln : PySem.W.nsIn K mainGlobals "_law_next" = some (some (.ref f_ln)))
    (l_ln : K.lookup f_ln = some ⟨oc_ln, od_ln, .func (PySem.W.fnOf "_law_next" "_law_next" (defArgs stLn) (defBody stLn) (defScope stLn) .none kV_ln dc_ln pm_ln an_ln cd_ln ct_ln), sl_ln⟩)
    (c_ln : PySem.W.codeIn K cd_ln "_law_next" = true)
    (k_ln : PySem.W.keepIn K (.ref f_ln) = true)
    (a_ls : PySem.W.nsIn K mainGlobals "_law_stands" = some (some (.ref f_ls)))
    (l_ls : K.lookup f_ls = some ⟨oc_ls, od_ls, .func (PySem.W.fnOf "_law_stands" "_law_stands" (defArgs stLs) (defBody stLs) (defScope stLs) .none kV_ls dc_ls pm_ls an_ls cd_ls ct_ls), sl_ls⟩)
    (c_ls : PySem.W.codeIn K cd_ls "_law_stands" = true)
    (k_ls : PySem.W.keepIn K (.ref f_ls) = true)
    (a_law : PySem.W.nsIn K mainGlobals "law" = some (some (.ref f_law)))
    (l_law : K.lookup f_law = some ⟨oc_law, od_law, .func (PySem.W.fnOf "law" "law" (defArgs stLaw) (defBody stLaw) (defScope stLaw) .none kV_law dc_law pm_law an_law cd_law ct_law), sl_law⟩)
    (c_law : PySem.W.codeIn K cd_law "law" = true)
    (k_law : PySem.W.keepIn K (.ref f_law) = true)
    (a_Ri : PySem.W.findIn K (.ref CR) "__init__" = some (some (.ref f_Ri)))
    (i_Ri : PySem.W.isFn K (.ref f_Ri) = true)
    (l_Ri : K.lookup f_Ri = some ⟨oc_Ri, od_Ri, .func (PySem.W.fnOf "__init__" "Roads.__init__" (defArgs (stR 0)) (defBody (stR 0)) (defScope (stR 0)) .none kV_Ri dc_Ri pm_Ri an_Ri cd_Ri ct_Ri), sl_Ri⟩)
    (c_Ri : PySem.W.codeIn K cd_Ri "Roads.__init__" = true)
    (k_Ri : PySem.W.keepIn K (.ref f_Ri) = true)
    (a_Rp : PySem.W.findIn K (.ref CR) "place_of" = some (some (.ref f_Rp)))
    (i_Rp : PySem.W.isFn K (.ref f_Rp) = true)
    (l_Rp : K.lookup f_Rp = some ⟨oc_Rp, od_Rp, .func (PySem.W.fnOf "place_of" "Roads.place_of" (defArgs (stR 7)) (defBody (stR 7)) (defScope (stR 7)) .none kV_Rp dc_Rp pm_Rp an_Rp cd_Rp ct_Rp), sl_Rp⟩)
    (c_Rp : PySem.W.codeIn K cd_Rp "Roads.place_of" = true)
    (k_Rp : PySem.W.keepIn K (.ref f_Rp) = true)
    (a_Rc : PySem.W.findIn K (.ref CR) "change" = some (some (.ref f_Rc)))
    (i_Rc : PySem.W.isFn K (.ref f_Rc) = true)
    (l_Rc : K.lookup f_Rc = some ⟨oc_Rc, od_Rc, .func (PySem.W.fnOf "change" "Roads.change" (defArgs (stR 6)) (defBody (stR 6)) (defScope (stR 6)) .none kV_Rc dc_Rc pm_Rc an_Rc cd_Rc ct_Rc), sl_Rc⟩)
    (c_Rc : PySem.W.codeIn K cd_Rc "Roads.change" = true)
    (k_Rc : PySem.W.keepIn K (.ref f_Rc) = true)
    (a_Rf : PySem.W.findIn K (.ref CR) "fall" = some (some (.ref f_Rf)))
    (i_Rf : PySem.W.isFn K (.ref f_Rf) = true)
    (l_Rf : K.lookup f_Rf = some ⟨oc_Rf, od_Rf, .func (PySem.W.fnOf "fall" "Roads.fall" (defArgs (stR 2)) (defBody (stR 2)) (defScope (stR 2)) .none kV_Rf dc_Rf pm_Rf an_Rf cd_Rf ct_Rf), sl_Rf⟩)
    (c_Rf : PySem.W.codeIn K cd_Rf "Roads.fall" = true)
    (k_Rf : PySem.W.keepIn K (.ref f_Rf) = true)
    (a_Rr : PySem.W.findIn K (.ref CR) "rise" = some (some (.ref f_Rr)))
    (i_Rr : PySem.W.isFn K (.ref f_Rr) = true)
    (l_Rr : K.lookup f_Rr = some ⟨oc_Rr, od_Rr, .func (PySem.W.fnOf "rise" "Roads.rise" (defArgs (stR 3)) (defBody (stR 3)) (defScope (stR 3)) .none kV_Rr dc_Rr pm_Rr an_Rr cd_Rr ct_Rr), sl_Rr⟩)
    (c_Rr : PySem.W.codeIn K cd_Rr "Roads.rise" = true)
    (k_Rr : PySem.W.keepIn K (.ref f_Rr) = true)
    (a_Rn : PySem.W.findIn K (.ref CR) "neighbours" = some (some (.ref f_Rn)))
    (i_Rn : PySem.W.isFn K (.ref f_Rn) = true)
    (l_Rn : K.lookup f_Rn = some ⟨oc_Rn, od_Rn, .func (PySem.W.fnOf "neighbours" "Roads.neighbours" (defArgs (stR 4)) (defBody (stR 4)) (defScope (stR 4)) .none kV_Rn dc_Rn pm_Rn an_Rn cd_Rn ct_Rn), sl_Rn⟩)
    (c_Rn : PySem.W.codeIn K cd_Rn "Roads.neighbours" = true)
    (k_Rn : PySem.W.keepIn K (.ref f_Rn) = true)
    (a_Fi : PySem.W.findIn K (.ref CF) "__init__" = some (some (.ref f_Fi)))
    (i_Fi : PySem.W.isFn K (.ref f_Fi) = true)
    (l_Fi : K.lookup f_Fi = some ⟨oc_Fi, od_Fi, .func (PySem.W.fnOf "__init__" "Fars.__init__" (defArgs (stF 0)) (defBody (stF 0)) (defScope (stF 0)) .none kV_Fi dc_Fi pm_Fi an_Fi cd_Fi ct_Fi), sl_Fi⟩)
    (c_Fi : PySem.W.codeIn K cd_Fi "Fars.__init__" = true)
    (k_Fi : PySem.W.keepIn K (.ref f_Fi) = true)
    (a_Fn : PySem.W.findIn K (.ref CF) "nears" = some (some (.ref f_Fn)))
    (i_Fn : PySem.W.isFn K (.ref f_Fn) = true)
    (l_Fn : K.lookup f_Fn = some ⟨oc_Fn, od_Fn, .func (PySem.W.fnOf "nears" "Fars.nears" (defArgs (stF 6)) (defBody (stF 6)) (defScope (stF 6)) .none kV_Fn dc_Fn pm_Fn an_Fn cd_Fn ct_Fn), sl_Fn⟩)
    (c_Fn : PySem.W.codeIn K cd_Fn "Fars.nears" = true)
    (k_Fn : PySem.W.keepIn K (.ref f_Fn) = true)
    (a_Fh : PySem.W.findIn K (.ref CF) "has" = some (some (.ref f_Fh)))
    (i_Fh : PySem.W.isFn K (.ref f_Fh) = true)
    (l_Fh : K.lookup f_Fh = some ⟨oc_Fh, od_Fh, .func (PySem.W.fnOf "has" "Fars.has" (defArgs (stF 7)) (defBody (stF 7)) (defScope (stF 7)) .none kV_Fh dc_Fh pm_Fh an_Fh cd_Fh ct_Fh), sl_Fh⟩)
    (c_Fh : PySem.W.codeIn K cd_Fh "Fars.has" = true)
    (k_Fh : PySem.W.keepIn K (.ref f_Fh) = true)
    (a_Ff : PySem.W.findIn K (.ref CF) "far" = some (some (.ref f_Ff)))
    (i_Ff : PySem.W.isFn K (.ref f_Ff) = true)
    (l_Ff : K.lookup f_Ff = some ⟨oc_Ff, od_Ff, .func (PySem.W.fnOf "far" "Fars.far" (defArgs (stF 1)) (defBody (stF 1)) (defScope (stF 1)) .none kV_Ff dc_Ff pm_Ff an_Ff cd_Ff ct_Ff), sl_Ff⟩)
    (c_Ff : PySem.W.codeIn K cd_Ff "Fars.far" = true)
    (k_Ff : PySem.W.keepIn K (.ref f_Ff) = true)
    (a_Fr : PySem.W.findIn K (.ref CF) "rows" = some (some (.ref f_Fr)))
    (i_Fr : PySem.W.isFn K (.ref f_Fr) = true)
    (l_Fr : K.lookup f_Fr = some ⟨oc_Fr, od_Fr, .func (PySem.W.fnOf "rows" "Fars.rows" (defArgs (stF 4)) (defBody (stF 4)) (defScope (stF 4)) .none kV_Fr dc_Fr pm_Fr an_Fr cd_Fr ct_Fr), sl_Fr⟩)
    (c_Fr : PySem.W.codeIn K cd_Fr "Fars.rows" = true)
    (k_Fr : PySem.W.keepIn K (.ref f_Fr) = true)
    (a_Ft : PySem.W.findIn K (.ref CF) "turn" = some (some (.ref f_Ft)))
    (i_Ft : PySem.W.isFn K (.ref f_Ft) = true)
    (l_Ft : K.lookup f_Ft = some ⟨oc_Ft, od_Ft, .func (PySem.W.fnOf "turn" "Fars.turn" (defArgs (stF 3)) (defBody (stF 3)) (defScope (stF 3)) .none kV_Ft dc_Ft pm_Ft an_Ft cd_Ft ct_Ft), sl_Ft⟩)
    (c_Ft : PySem.W.codeIn K cd_Ft "Fars.turn" = true)
    (k_Ft : PySem.W.keepIn K (.ref f_Ft) = true)
    (a_Fx : PySem.W.findIn K (.ref CF) "next" = some (some (.ref f_Fx)))
    (i_Fx : PySem.W.isFn K (.ref f_Fx) = true)
    (l_Fx : K.lookup f_Fx = some ⟨oc_Fx, od_Fx, .func (PySem.W.fnOf "next" "Fars.next" (defArgs (stF 2)) (defBody (stF 2)) (defScope (stF 2)) .none kV_Fx dc_Fx pm_Fx an_Fx cd_Fx ct_Fx), sl_Fx⟩)
    (c_Fx : PySem.W.codeIn K cd_Fx "Fars.next" = true)
    (k_Fx : PySem.W.keepIn K (.ref f_Fx) = true)
    (pgR : PySem.W.plainGet K CR Str.empty = true)
    (hdR : PySem.W.hasDictIn K CR = true)
    (poR : PySem.W.plainOver K CR = true)
    (saR : PySem.W.findIn K (.ref CR) "__setattr__" = some (some (.builtin "object.__setattr__")))
    (mkR : PySem.W.makesIn K CR = true)
    (kcR : PySem.W.keepIn K (.ref CR) = true)
    (pgF : PySem.W.plainGet K CF Str.empty = true)
    (hdF : PySem.W.hasDictIn K CF = true)
    (poF : PySem.W.plainOver K CF = true)
    (saF : PySem.W.findIn K (.ref CF) "__setattr__" = some (some (.builtin "object.__setattr__")))
    (mkF : PySem.W.makesIn K CF = true)
    (kcF : PySem.W.keepIn K (.ref CF) = true)
    (nR_many : PySem.W.findIn K (.ref CR) "many" = some none)
    (nR_listed : PySem.W.findIn K (.ref CR) "listed" = some none)
    (nR_states : PySem.W.findIn K (.ref CR) "states" = some none)
    (nF_roads : PySem.W.findIn K (.ref CF) "roads" = some none)
    (nF_fars : PySem.W.findIn K (.ref CF) "fars" = some none)
    (v_HOUSES : PySem.W.nsIn K mainGlobals "HOUSES" = some (some (.int 8 t_HOUSES)))
    (v_ROADS : PySem.W.nsIn K mainGlobals "ROADS" = some (some (.int 14 t_ROADS)))
    (v_DELAY : PySem.W.nsIn K mainGlobals "DELAY" = some (some (.int 2 t_DELAY)))
    (v_NARROW : PySem.W.nsIn K mainGlobals "NARROW" = some (some (.int 16 t_NARROW)))
    (v_WIDE : PySem.W.nsIn K mainGlobals "WIDE" = some (some (.int 80 t_WIDE)))
    (v_FAR : PySem.W.nsIn K mainGlobals "FAR" = some (some (.int 24 t_FAR)))
    (b_len : PySem.W.nsIn K mainGlobals "len" = some none)
    (b_isinstance : PySem.W.nsIn K mainGlobals "isinstance" = some none)
    (b_int : PySem.W.nsIn K mainGlobals "int" = some none)
    (b_bool : PySem.W.nsIn K mainGlobals "bool" = some none)
    (b_tuple : PySem.W.nsIn K mainGlobals "tuple" = some none)
    (b_list : PySem.W.nsIn K mainGlobals "list" = some none)
    (b_range : PySem.W.nsIn K mainGlobals "range" = some none)
    (b_min : PySem.W.nsIn K mainGlobals "min" = some none)
    (b_abs : PySem.W.nsIn K mainGlobals "abs" = some none)
    (b_sorted : PySem.W.nsIn K mainGlobals "sorted" = some none)
    (b_zip : PySem.W.nsIn K mainGlobals "zip" = some none)
    (b_enumerate : PySem.W.nsIn K mainGlobals "enumerate" = some none) :
    ∃ fd : FuncData, (∀ (s : Shared) (v : Value), BindsTo s fd ⟨[v], []⟩ [("_law_script", v)]) ∧ ∀ base : Heap, K.In base → base.Ns mainGlobals mg → FnOk l.prog w K mg base CX0 7 fa fd ["_law_script"] (spM K sLaw) := by
  have e := hfa.symm.trans (PySem.W.mg_of X G a_law)
  cases e
  have B : Bt mg := ⟨PySem.W.mg_none_of X G b_len, PySem.W.mg_none_of X G b_isinstance, PySem.W.mg_none_of X G b_int, PySem.W.mg_none_of X G b_bool, PySem.W.mg_none_of X G b_tuple, PySem.W.mg_none_of X G b_list, PySem.W.mg_none_of X G b_range, PySem.W.mg_none_of X G b_min, PySem.W.mg_none_of X G b_abs, PySem.W.mg_none_of X G b_sorted, PySem.W.mg_none_of X G b_zip, PySem.W.mg_none_of X G b_enumerate⟩
  have I : Ci mg := ⟨⟨_, PySem.W.mg_of X G v_HOUSES⟩, ⟨_, PySem.W.mg_of X G v_ROADS⟩, ⟨_, PySem.W.mg_of X G v_DELAY⟩, ⟨_, PySem.W.mg_of X G v_NARROW⟩, ⟨_, PySem.W.mg_of X G v_WIDE⟩, ⟨_, PySem.W.mg_of X G v_FAR⟩⟩
  have T : Kc K CR CF := ⟨⟨pgR, hdR, poR, saR⟩, nR_many, nR_listed, nR_states, ⟨pgF, hdF, poF, saF⟩, nF_roads, nF_fars⟩
  have F_w := fun_mk (st := stIsWhole) l_w c_w k_w
  have bw := F_w.binds (ps := ["thing"]) fun _ _ _ _ _ _ us hl => match us, hl with | [_], _ => rfl
  have F_wi := fun_mk (st := stWithin) l_wi c_wi k_wi
  have bwi := F_wi.binds (ps := ["thing", "least", "most"]) fun _ _ _ _ _ _ us hl => match us, hl with | [_, _, _], _ => rfl
  have F_ol := fun_mk (st := stOutline) l_ol c_ol k_ol
  have bol := F_ol.binds (ps := ["houses", "roads"]) fun _ _ _ _ _ _ us hl => match us, hl with | [_, _], _ => rfl
  have F_ir := fun_mk (st := stIsRoad) l_ir c_ir k_ir
  have bir := F_ir.binds (ps := ["houses", "row"]) fun _ _ _ _ _ _ us hl => match us, hl with | [_, _], _ => rfl
  have F_fi := fun_mk (st := stFirst) l_fi c_fi k_fi
  have bfi := F_fi.binds (ps := ["houses", "roads"]) fun _ _ _ _ _ _ us hl => match us, hl with | [_, _], _ => rfl
  have F_ne := fun_mk (st := stNeigh) l_ne c_ne k_ne
  have bne := F_ne.binds (ps := ["roads", "up", "house"]) fun _ _ _ _ _ _ us hl => match us, hl with | [_, _, _], _ => rfl
  have F_sp := fun_mk (st := stSteps) l_sp c_sp k_sp
  have bsp := F_sp.binds (ps := ["fars", "near", "other"]) fun _ _ _ _ _ _ us hl => match us, hl with | [_, _, _], _ => rfl
  have F_tf := fun_mk (st := stTf) l_tf c_tf k_tf
  have btf := F_tf.binds (ps := ["fars", "near", "house", "other"]) fun _ _ _ _ _ _ us hl => match us, hl with | [_, _, _, _], _ => rfl
  have F_tu := fun_mk (st := stTurned) l_tu c_tu k_tu
  have btu := F_tu.binds (ps := ["fars", "nears"]) fun _ _ _ _ _ _ us hl => match us, hl with | [_, _], _ => rfl
  have F_se := fun_mk (st := stSettled) l_se c_se k_se
  have bse := F_se.binds (ps := ["nears"]) fun _ _ _ _ _ _ us hl => match us, hl with | [_], _ => rfl
  have F_dc := fun_mk (st := stDeck) l_dc c_dc k_dc
  have bdc := F_dc.binds (ps := ["_law_script"]) fun _ _ _ _ _ _ us hl => match us, hl with | [_], _ => rfl
  have F_dr := fun_mk (st := stDraw) l_dr c_dr k_dr
  have bdr := F_dr.binds (ps := ["_law_deck_here", "_law_many"]) fun _ _ _ _ _ _ us hl => match us, hl with | [_, _], _ => rfl
  have F_ro := fun_mk (st := stRoads) l_ro c_ro k_ro
  have bro := F_ro.binds (ps := ["_law_deck_here", "_law_houses"]) fun _ _ _ _ _ _ us hl => match us, hl with | [_, _], _ => rfl
  have F_sh := fun_mk (st := stShort) l_sh c_sh k_sh
  have bsh := F_sh.binds (ps := ["_law_houses", "_law_roads_here", "_law_up"]) fun _ _ _ _ _ _ us hl => match us, hl with | [_, _, _], _ => rfl
  have F_lt := fun_mk (st := stLt) l_lt c_lt k_lt
  have blt := F_lt.binds (ps := ["_law_houses", "_law_roads_here", "_law_up", "_law_fars"]) fun _ _ _ _ _ _ us hl => match us, hl with | [_, _, _, _], _ => rfl
  have F_ln := fun_mk (st := stLn) l_ln c_ln k_ln
  have bln := F_ln.binds (ps := ["_law_roads_here", "_law_up", "_law_fars", "_law_house", "_law_other"]) fun _ _ _ _ _ _ us hl => match us, hl with | [_, _, _, _, _], _ => rfl
  have F_ls := fun_mk (st := stLs) l_ls c_ls k_ls
  have bls := F_ls.binds (ps := ["_law_known", "_law_houses", "_law_roads_here", "_law_up", "_law_fars"]) fun _ _ _ _ _ _ us hl => match us, hl with | [_, _, _, _, _], _ => rfl
  have F_law := fun_mk (st := stLaw) l_law c_law k_law
  have F_Ri := fun_mk (st := (stR 0)) l_Ri c_Ri k_Ri
  have bRi := F_Ri.binds (ps := ["self", "houses", "roads"]) fun _ _ _ _ _ _ us hl => match us, hl with | [_, _, _], _ => rfl
  have F_Rp := fun_mk (st := (stR 7)) l_Rp c_Rp k_Rp
  have bRp := F_Rp.binds (ps := ["self", "a", "b"]) fun _ _ _ _ _ _ us hl => match us, hl with | [_, _, _], _ => rfl
  have F_Rc := fun_mk (st := (stR 6)) l_Rc c_Rc k_Rc
  have bRc := F_Rc.binds (ps := ["self", "a", "b", "state"]) fun _ _ _ _ _ _ us hl => match us, hl with | [_, _, _, _], _ => rfl
  have F_Rf := fun_mk (st := (stR 2)) l_Rf c_Rf k_Rf
  have bRf := F_Rf.binds (ps := ["self", "a", "b"]) fun _ _ _ _ _ _ us hl => match us, hl with | [_, _, _], _ => rfl
  have F_Rr := fun_mk (st := (stR 3)) l_Rr c_Rr k_Rr
  have bRr := F_Rr.binds (ps := ["self", "a", "b"]) fun _ _ _ _ _ _ us hl => match us, hl with | [_, _, _], _ => rfl
  have F_Rn := fun_mk (st := (stR 4)) l_Rn c_Rn k_Rn
  have bRn := F_Rn.binds (ps := ["self", "house"]) fun _ _ _ _ _ _ us hl => match us, hl with | [_, _], _ => rfl
  have F_Fi := fun_mk (st := (stF 0)) l_Fi c_Fi k_Fi
  have bFi := F_Fi.binds (ps := ["self", "roads"]) fun _ _ _ _ _ _ us hl => match us, hl with | [_, _], _ => rfl
  have F_Fn := fun_mk (st := (stF 6)) l_Fn c_Fn k_Fn
  have bFn := F_Fn.binds (ps := ["self"]) fun _ _ _ _ _ _ us hl => match us, hl with | [_], _ => rfl
  have F_Fh := fun_mk (st := (stF 7)) l_Fh c_Fh k_Fh
  have bFh := F_Fh.binds (ps := ["self", "house"]) fun _ _ _ _ _ _ us hl => match us, hl with | [_, _], _ => rfl
  have F_Ff := fun_mk (st := (stF 1)) l_Ff c_Ff k_Ff
  have bFf := F_Ff.binds (ps := ["self", "house", "other"]) fun _ _ _ _ _ _ us hl => match us, hl with | [_, _, _], _ => rfl
  have F_Fr := fun_mk (st := (stF 4)) l_Fr c_Fr k_Fr
  have bFr := F_Fr.binds (ps := ["self"]) fun _ _ _ _ _ _ us hl => match us, hl with | [_], _ => rfl
  have F_Ft := fun_mk (st := (stF 3)) l_Ft c_Ft k_Ft
  have bFt := F_Ft.binds (ps := ["self"]) fun _ _ _ _ _ _ us hl => match us, hl with | [_], _ => rfl
  have F_Fx := fun_mk (st := (stF 2)) l_Fx c_Fx k_Fx
  have bFx := F_Fx.binds (ps := ["self", "house", "other"]) fun _ _ _ _ _ _ us hl => match us, hl with | [_, _, _], _ => rfl
  refine ⟨PySem.W.fnOf "law" "law" (defArgs stLaw) (defBody stLaw) (defScope stLaw) .none kV_law dc_law pm_law an_law cd_law ct_law, fun s v => .of_eq rfl, fun base _ _ => ?_⟩
  have ok_w := ok_is_whole (P := l.prog) (w := w) (mg := mg) (base := base) F_w B
  have U_w : Cal l.prog w K mg base 1 "is_whole" 1 sIsWhole := ⟨_, _, _, ok_w, PySem.W.mg_of X G a_w, k_w, bw, rfl⟩
  have ok_wi := ok_within (P := l.prog) (w := w) (mg := mg) (base := base) F_wi B U_w
  have U_wi : Cal l.prog w K mg base 2 "is_whole_within" 3 sWithin := ⟨_, _, _, ok_wi, PySem.W.mg_of X G a_wi, k_wi, bwi, rfl⟩
  have ok_ol := ok_outline (P := l.prog) (w := w) (mg := mg) (base := base) F_ol B I U_wi
  have U_ol : Cal l.prog w K mg base 3 "is_outline" 2 sOutline := ⟨_, _, _, ok_ol, PySem.W.mg_of X G a_ol, k_ol, bol, rfl⟩
  have ok_ir := ok_is_road (P := l.prog) (w := w) (mg := mg) (base := base) F_ir B I U_wi
  have U_ir : Cal l.prog w K mg base 3 "is_road" 2 sIsRoad := ⟨_, _, _, ok_ir, PySem.W.mg_of X G a_ir, k_ir, bir, rfl⟩
  have ok_fi := ok_first (P := l.prog) (w := w) (mg := mg) (base := base) F_fi B U_ir
  have U_fi : Cal l.prog w K mg base 4 "first_wrong_road" 2 sFirst := ⟨_, _, _, ok_fi, PySem.W.mg_of X G a_fi, k_fi, bfi, rfl⟩
  have ok_ne := ok_neigh (P := l.prog) (w := w) (mg := mg) (base := base) F_ne B
  have U_ne : Cal l.prog w K mg base 1 "neighbours_by" 3 sNeigh := ⟨_, _, _, ok_ne, PySem.W.mg_of X G a_ne, k_ne, bne, rfl⟩
  have ok_sp := ok_steps (P := l.prog) (w := w) (mg := mg) (base := base) F_sp B
  have U_sp : Cal l.prog w K mg base 1 "steps_to" 3 sSteps := ⟨_, _, _, ok_sp, PySem.W.mg_of X G a_sp, k_sp, bsp, rfl⟩
  have ok_tf := ok_tf (P := l.prog) (w := w) (mg := mg) (base := base) F_tf B I U_sp
  have U_tf : Cal l.prog w K mg base 2 "turned_far" 4 sTf := ⟨_, _, _, ok_tf, PySem.W.mg_of X G a_tf, k_tf, btf, rfl⟩
  have ok_tu := ok_turned (P := l.prog) (w := w) (mg := mg) (base := base) F_tu B U_tf
  have U_tu : Cal l.prog w K mg base 3 "turned" 2 sTurned := ⟨_, _, _, ok_tu, PySem.W.mg_of X G a_tu, k_tu, btu, rfl⟩
  have ok_se := ok_settled (P := l.prog) (w := w) (mg := mg) (base := base) F_se B I U_tu
  have U_se : Cal l.prog w K mg base 4 "settled" 1 sSettled := ⟨_, _, _, ok_se, PySem.W.mg_of X G a_se, k_se, bse, rfl⟩
  have ok_Ri := ok_Ri (P := l.prog) (w := w) (mg := mg) (base := base) F_Ri B T U_ol U_fi
  have U_Ri : Cak l.prog w K mg base 5 CR "Roads" (sRi CR) := ⟨_, _, _, ok_Ri, ⟨mkR, a_Ri, i_Ri, kcR⟩, PySem.W.mg_of X G aR, bRi⟩
  have ok_Rp := ok_Rplace (P := l.prog) (w := w) (mg := mg) (base := base) F_Rp B T U_w
  have U_Rp : Cam l.prog w K mg base 2 CR "place_of" (sRplace CR) := ⟨_, _, _, ok_Rp, T.clR, ⟨a_Rp, i_Rp, k_Rp⟩, bRp⟩
  have ok_Rc := ok_Rchange (P := l.prog) (w := w) (mg := mg) (base := base) F_Rc B T U_Rp
  have U_Rc : Cam l.prog w K mg base 3 CR "change" (sRchange CR) := ⟨_, _, _, ok_Rc, T.clR, ⟨a_Rc, i_Rc, k_Rc⟩, bRc⟩
  have ok_Rf := ok_Rfall (P := l.prog) (w := w) (mg := mg) (base := base) F_Rf T U_Rc
  have U_Rf : Cam l.prog w K mg base 4 CR "fall" (sRput CR false) := ⟨_, _, _, ok_Rf, T.clR, ⟨a_Rf, i_Rf, k_Rf⟩, bRf⟩
  have ok_Rr := ok_Rrise (P := l.prog) (w := w) (mg := mg) (base := base) F_Rr T U_Rc
  have U_Rr : Cam l.prog w K mg base 4 CR "rise" (sRput CR true) := ⟨_, _, _, ok_Rr, T.clR, ⟨a_Rr, i_Rr, k_Rr⟩, bRr⟩
  have ok_Rn := ok_Rneigh (P := l.prog) (w := w) (mg := mg) (base := base) F_Rn T U_ne
  have U_Rn : Cam l.prog w K mg base 2 CR "neighbours" (sRneigh CR) := ⟨_, _, _, ok_Rn, T.clR, ⟨a_Rn, i_Rn, k_Rn⟩, bRn⟩
  have ok_Fn := ok_Fnears (P := l.prog) (w := w) (mg := mg) (base := base) F_Fn B T U_Rn
  have U_Fn : Cam l.prog w K mg base 3 CF "nears" (sFnears CR CF) := ⟨_, _, _, ok_Fn, T.clF, ⟨a_Fn, i_Fn, k_Fn⟩, bFn⟩
  have ok_Fh := ok_Fhas (P := l.prog) (w := w) (mg := mg) (base := base) F_Fh T U_wi
  have U_Fh : Cam l.prog w K mg base 3 CF "has" (sFhas CR CF) := ⟨_, _, _, ok_Fh, T.clF, ⟨a_Fh, i_Fh, k_Fh⟩, bFh⟩
  have ok_Ff := ok_Ffar (P := l.prog) (w := w) (mg := mg) (base := base) F_Ff T U_Fh
  have U_Ff : Cam l.prog w K mg base 4 CF "far" (sFfar CR CF) := ⟨_, _, _, ok_Ff, T.clF, ⟨a_Ff, i_Ff, k_Ff⟩, bFf⟩
  have ok_Fr := ok_Frows (P := l.prog) (w := w) (mg := mg) (base := base) F_Fr T
  have U_Fr : Cam l.prog w K mg base 1 CF "rows" (sFrows CF) := ⟨_, _, _, ok_Fr, T.clF, ⟨a_Fr, i_Fr, k_Fr⟩, bFr⟩
  have ok_Ft := ok_Fturn (P := l.prog) (w := w) (mg := mg) (base := base) F_Ft T U_Fn U_tu
  have U_Ft : Cam l.prog w K mg base 4 CF "turn" (sFturn CR CF) := ⟨_, _, _, ok_Ft, T.clF, ⟨a_Ft, i_Ft, k_Ft⟩, bFt⟩
  have ok_Fi := ok_Fi (P := l.prog) (w := w) (mg := mg) (base := base) F_Fi T U_Fn U_se
  have U_Fi : Cak l.prog w K mg base 5 CF "Fars" (sFi CR CF) := ⟨_, _, _, ok_Fi, ⟨mkF, a_Fi, i_Fi, kcF⟩, PySem.W.mg_of X G aF, bFi⟩
  have ok_Fx := ok_Fnext (P := l.prog) (w := w) (mg := mg) (base := base) F_Fx B I T U_Fh U_sp U_Rn
  have U_Fx : Cam l.prog w K mg base 4 CF "next" (sFnext CR CF) := ⟨_, _, _, ok_Fx, T.clF, ⟨a_Fx, i_Fx, k_Fx⟩, bFx⟩
  have ok_dc := ok_deck (P := l.prog) (w := w) (mg := mg) (base := base) F_dc B
  have U_dc : Cal l.prog w K mg base 1 "_law_deck" 1 sDeck := ⟨_, _, _, ok_dc, PySem.W.mg_of X G a_dc, k_dc, bdc, rfl⟩
  have ok_dr := ok_draw (P := l.prog) (w := w) (mg := mg) (base := base) F_dr B
  have U_dr : Cal l.prog w K mg base 1 "_law_draw" 2 sDraw := ⟨_, _, _, ok_dr, PySem.W.mg_of X G a_dr, k_dr, bdr, rfl⟩
  have ok_ro := ok_roads (P := l.prog) (w := w) (mg := mg) (base := base) F_ro B U_dr
  have U_ro : Cal l.prog w K mg base 2 "_law_roads" 2 sRoads := ⟨_, _, _, ok_ro, PySem.W.mg_of X G a_ro, k_ro, bro, rfl⟩
  have ok_sh := ok_short (P := l.prog) (w := w) (mg := mg) (base := base) F_sh B
  have U_sh : Cal l.prog w K mg base 1 "_law_shortest" 3 sShort := ⟨_, _, _, ok_sh, PySem.W.mg_of X G a_sh, k_sh, bsh, rfl⟩
  have ok_lt := ok_lt (P := l.prog) (w := w) (mg := mg) (base := base) F_lt B
  have U_lt : Cal l.prog w K mg base 1 "_law_turned" 4 sLt := ⟨_, _, _, ok_lt, PySem.W.mg_of X G a_lt, k_lt, blt, rfl⟩
  have ok_ln := ok_ln (P := l.prog) (w := w) (mg := mg) (base := base) F_ln B
  have U_ln : Cal l.prog w K mg base 1 "_law_next" 5 sLn := ⟨_, _, _, ok_ln, PySem.W.mg_of X G a_ln, k_ln, bln, rfl⟩
  have ok_ls := ok_stands (P := l.prog) (w := w) (mg := mg) (base := base) F_ls B T U_Fr U_Ff U_Fx U_ln
  have U_ls : Cal l.prog w K mg base 5 "_law_stands" 5 (sLs CR CF) := ⟨_, _, _, ok_ls, PySem.W.mg_of X G a_ls, k_ls, bls, rfl⟩
  exact ok_law F_law B T U_dc U_dr U_ro U_Ri U_Fi U_sh U_lt U_ls U_Rf U_Rr U_Ft U_Fr
theorem sp_law {K : PySem.W.Frag} {H : Hp} {a : Addr} {ns : List Int} (hS : SqL K H a (ns.map V.int)) : spM K sLaw [.ref a] H (fun v _ => v = .bl true) fun _ _ _ => False :=
  ⟨[], H, [], [.s ns], fun x _ => x = .d (.bool true), ⟨Same.refl _, rfl, List.nodup_nil, fun a ha => by simp at ha, fun i o ho => by simp at ho⟩, .cons ⟨a, rfl, hS⟩ .nil, ⟨ns, rfl, rfl, fun _ => rfl⟩, fun v x π' G' H' m' e hk rv q => by subst q; exact Da.blI rv⟩
theorem walk {l : PySem.W.OpenLaw} {q : Program} {loose : List Str} {XP : (Str → Option Value) → Heap → Prop} {YP : World → Heap → Prop} {d : DefRec} {K : Params → PySem.W.Frag} (hn : l.most = some 63) (hdf : d.params.defaults = [])
    (hY : ∀ (w : World) (h : Heap), YP w h → (K w.params).In h)
    (F : ∀ (w : World) (mg : Str → Option Value) (fa : Addr) (h : Heap), (K w.params).In h → h.Ns mainGlobals mg → mg d.name = some (.ref fa) →
      ∃ fd : FuncData, (∀ (s : Shared) (u : Value), BindsTo s fd ⟨[u], []⟩ [("_law_script", u)]) ∧ ∀ base : Heap, (K w.params).In base → base.Ns mainGlobals mg → FnOk l.prog w (K w.params) mg base CX0 7 fa fd ["_law_script"] (spM (K w.params) sLaw)) :
    PySem.W.WalkO q loose XP YP l.row.toRowW d [] (fun f vs => PySem.call f vs) :=
  L2.walk_of (n := 63) (k := 7) (x := "_law_script") (CX := fun _ => CX0) (sp := fun w => spM (K w.params) sLaw) hn (by decide) hdf ⟨rfl, by decide, by decide⟩ hY F (fun _ _ a ns _ _ hS => sp_law hS) fun _ _ _ _ _ z => z

end Wn
open PySem PySem.W PyProof.Rows
set_option Elab.async false
set_option maxRecDepth 100000 in
set_option maxHeartbeats 0 in
theorem PySem.Challenge.cw_wrapnets_k05_fars_turn_holds : PySem.Challenge.rw_wrapnets_k05_fars_turn.Holds := by
  w_on; o_law; k_head; (case hw => w_witness2)
  k_fill
  refine Wn.walk (l := PySem.Challenge.rw_wrapnets_k05_fars_turn) rfl rfl (fun w h Y => PySem.W.kIn_of Y) ?F
  case F =>
    intro w mg fa h KX G hmg
    refine' Wn.all_mk KX G hmg ?aR ?aF ?a_w ?l_w ?c_w ?k_w ?a_wi ?l_wi ?c_wi ?k_wi ?a_ol ?l_ol ?c_ol ?k_ol ?a_ir ?l_ir ?c_ir ?k_ir ?a_fi ?l_fi ?c_fi ?k_fi ?a_ne ?l_ne ?c_ne ?k_ne ?a_sp ?l_sp ?c_sp ?k_sp ?a_tf ?l_tf ?c_tf ?k_tf ?a_tu ?l_tu ?c_tu ?k_tu ?a_se ?l_se ?c_se ?k_se ?a_dc ?l_dc ?c_dc ?k_dc ?a_dr ?l_dr ?c_dr ?k_dr ?a_ro ?l_ro ?c_ro ?k_ro ?a_sh ?l_sh ?c_sh ?k_sh ?a_lt ?l_lt ?c_lt ?k_lt ?a_ln ?l_ln ?c_ln ?k_ln ?a_ls ?l_ls ?c_ls ?k_ls ?a_law ?l_law ?c_law ?k_law ?a_Ri ?i_Ri ?l_Ri ?c_Ri ?k_Ri ?a_Rp ?i_Rp ?l_Rp ?c_Rp ?k_Rp ?a_Rc ?i_Rc ?l_Rc ?c_Rc ?k_Rc ?a_Rf ?i_Rf ?l_Rf ?c_Rf ?k_Rf ?a_Rr ?i_Rr ?l_Rr ?c_Rr ?k_Rr ?a_Rn ?i_Rn ?l_Rn ?c_Rn ?k_Rn ?a_Fi ?i_Fi ?l_Fi ?c_Fi ?k_Fi ?a_Fn ?i_Fn ?l_Fn ?c_Fn ?k_Fn ?a_Fh ?i_Fh ?l_Fh ?c_Fh ?k_Fh ?a_Ff ?i_Ff ?l_Ff ?c_Ff ?k_Ff ?a_Fr ?i_Fr ?l_Fr ?c_Fr ?k_Fr ?a_Ft ?i_Ft ?l_Ft ?c_Ft ?k_Ft ?a_Fx ?i_Fx ?l_Fx ?c_Fx ?k_Fx ?pgR ?hdR ?poR ?saR ?mkR ?kcR ?pgF ?hdF ?poF ?saF ?mkF ?kcF ?nR_many ?nR_listed ?nR_states ?nF_roads ?nF_fars ?v_HOUSES ?v_ROADS ?v_DELAY ?v_NARROW ?v_WIDE ?v_FAR ?b_len ?b_isinstance ?b_int ?b_bool ?b_tuple ?b_list ?b_range ?b_min ?b_abs ?b_sorted ?b_zip ?b_enumerate
    (case aR => k_is)
    (case aF => k_is)
    (case a_w => k_is)
    (case l_w => k_is)
    (case c_w => k_is)
    (case k_w => k_is)
    (case a_wi => k_is)
    (case l_wi => k_is)
    (case c_wi => k_is)
    (case k_wi => k_is)
    (case a_ol => k_is)
    (case l_ol => k_is)
    (case c_ol => k_is)
    (case k_ol => k_is)
    (case a_ir => k_is)
    (case l_ir => k_is)
    (case c_ir => k_is)
    (case k_ir => k_is)
    (case a_fi => k_is)
    (case l_fi => k_is)
    (case c_fi => k_is)
    (case k_fi => k_is)
    (case a_ne => k_is)
    (case l_ne => k_is)
    (case c_ne => k_is)
    (case k_ne => k_is)
    (case a_sp => k_is)
    (case l_sp => k_is)
    (case c_sp => k_is)
    (case k_sp => k_is)
    (case a_tf => k_is)
    (case l_tf => k_is)
    (case c_tf => k_is)
    (case k_tf => k_is)
    (case a_tu => k_is)
    (case l_tu => k_is)
    (case c_tu => k_is)
    (case k_tu => k_is)
    (case a_se => k_is)
    (case l_se => k_is)
    (case c_se => k_is)
    (case k_se => k_is)
    (case a_dc => k_is)
    (case l_dc => k_is)
    (case c_dc => k_is)
    (case k_dc => k_is)
    (case a_dr => k_is)
    (case l_dr => k_is)
    (case c_dr => k_is)
    (case k_dr => k_is)
    (case a_ro => k_is)
    (case l_ro => k_is)
    (case c_ro => k_is)
    (case k_ro => k_is)
    (case a_sh => k_is)
    (case l_sh => k_is)
    (case c_sh => k_is)
    (case k_sh => k_is)
    (case a_lt => k_is)
    (case l_lt => k_is)
    (case c_lt => k_is)
    (case k_lt => k_is)
    (case a_ln => k_is)
    (case l_ln => k_is)
    (case c_ln => k_is)
    (case k_ln => k_is)
    (case a_ls => k_is)
    (case l_ls => k_is)
    (case c_ls => k_is)
    (case k_ls => k_is)
    (case a_law => k_is)
    (case l_law => k_is)
    (case c_law => k_is)
    (case k_law => k_is)
    (case a_Ri => k_is)
    (case i_Ri => k_is)
    (case l_Ri => k_is)
    (case c_Ri => k_is)
    (case k_Ri => k_is)
    (case a_Rp => k_is)
    (case i_Rp => k_is)
    (case l_Rp => k_is)
    (case c_Rp => k_is)
    (case k_Rp => k_is)
    (case a_Rc => k_is)
    (case i_Rc => k_is)
    (case l_Rc => k_is)
    (case c_Rc => k_is)
    (case k_Rc => k_is)
    (case a_Rf => k_is)
    (case i_Rf => k_is)
    (case l_Rf => k_is)
    (case c_Rf => k_is)
    (case k_Rf => k_is)
    (case a_Rr => k_is)
    (case i_Rr => k_is)
    (case l_Rr => k_is)
    (case c_Rr => k_is)
    (case k_Rr => k_is)
    (case a_Rn => k_is)
    (case i_Rn => k_is)
    (case l_Rn => k_is)
    (case c_Rn => k_is)
    (case k_Rn => k_is)
    (case a_Fi => k_is)
    (case i_Fi => k_is)
    (case l_Fi => k_is)
    (case c_Fi => k_is)
    (case k_Fi => k_is)
    (case a_Fn => k_is)
    (case i_Fn => k_is)
    (case l_Fn => k_is)
    (case c_Fn => k_is)
    (case k_Fn => k_is)
    (case a_Fh => k_is)
    (case i_Fh => k_is)
    (case l_Fh => k_is)
    (case c_Fh => k_is)
    (case k_Fh => k_is)
    (case a_Ff => k_is)
    (case i_Ff => k_is)
    (case l_Ff => k_is)
    (case c_Ff => k_is)
    (case k_Ff => k_is)
    (case a_Fr => k_is)
    (case i_Fr => k_is)
    (case l_Fr => k_is)
    (case c_Fr => k_is)
    (case k_Fr => k_is)
    (case a_Ft => k_is)
    (case i_Ft => k_is)
    (case l_Ft => k_is)
    (case c_Ft => k_is)
    (case k_Ft => k_is)
    (case a_Fx => k_is)
    (case i_Fx => k_is)
    (case l_Fx => k_is)
    (case c_Fx => k_is)
    (case k_Fx => k_is)
    (case pgR => k_is)
    (case hdR => k_is)
    (case poR => k_is)
    (case saR => k_is)
    (case mkR => k_is)
    (case kcR => k_is)
    (case pgF => k_is)
    (case hdF => k_is)
    (case poF => k_is)
    (case saF => k_is)
    (case mkF => k_is)
    (case kcF => k_is)
    (case nR_many => k_is)
    (case nR_listed => k_is)
    (case nR_states => k_is)
    (case nF_roads => k_is)
    (case nF_fars => k_is)
    (case v_HOUSES => k_is)
    (case v_ROADS => k_is)
    (case v_DELAY => k_is)
    (case v_NARROW => k_is)
    (case v_WIDE => k_is)
    (case v_FAR => k_is)
    (case b_len => k_is)
    (case b_isinstance => k_is)
    (case b_int => k_is)
    (case b_bool => k_is)
    (case b_tuple => k_is)
    (case b_list => k_is)
    (case b_range => k_is)
    (case b_min => k_is)
    (case b_abs => k_is)
    (case b_sorted => k_is)
    (case b_zip => k_is)
    (case b_enumerate => k_is)
