import PyProof.Rows.All
import Wide.All
import OpenK.AllK
import Wide.FinOn
import HandS.ForMost
import HandS.IsInst
import HandS.TupLe
import HandS.Conv
import HandS.Exc
import KE.DataEq
import KE.DataCmp
import KE.DataMinMax
import KE.DataIsa
import KE.DataAny
import KE.SortData
import KE.KDictKeyed
import KE.GoesEnum
import HandS.SortKw
import HandS.SortInts
import HandS.Small
import HandS.More
import HandS.Iter
import KE.GoesEnumKw
import HandS.SetKeys
import HandS.Text
import HandS.SortOrd
import HandS.TryOnly
import HandS.TupAny
import PyProof.ReprRoads
import HandS.RaiseMore
import PyProof.ReprLen
import KE.KRevSl
import HandS.Style
import HandS.ExcOwn
import HandS.ExcInit
import HandS.ExcField
import HandS.ClsMeth
import HandS.WordsExc
import KE.KExcIs
import HandS.ExcIs
import PyProof.EqKinds
import HandS.New0
import HandS.TupSets
import PyProof.DictMoreH
import HandS.DictComp
import PySem.Challenge.RW_wrapnets_k20_filters_and_copies
set_option Elab.async false
set_option linter.all false
set_option maxRecDepth 100000
set_option maxHeartbeats 2000000
namespace Wn
open PySem L2

/-! ### values that stand for data -/
def keyD : Key → PyData
  | .inl i => .int i
  | .inr x => .str x
mutual
inductive Da (K : PySem.W.Frag) (H : Hp) : V → PyData → Prop
  | non : Da K H .non .none
  | bl (b : Bool) : Da K H (.bl b) (.bool b)
  | int (i : Int) : Da K H (.int i) (.int i)
  | str (x : Str) : Da K H (.str x) (.str x)
  | lst {a : Addr} {xs : List V} {ds : List PyData} : H a = some (.lst xs) → DaAll K H xs ds → Da K H (.ref a) (.list ds)
  | tup {a : Addr} {xs : List V} {ds : List PyData} : SqT K H a xs → DaAll K H xs ds → Da K H (.ref a) (.tuple ds)
  | dct {a : Addr} {kvs : List (Key × V)} {ds : List (PyData × PyData)} : H a = some (.dK kvs) → DaKV K H kvs ds → Da K H (.ref a) (.dict ds)
inductive DaAll (K : PySem.W.Frag) (H : Hp) : List V → List PyData → Prop
  | nil : DaAll K H [] []
  | cons {v : V} {vs : List V} {d : PyData} {ds : List PyData} : Da K H v d → DaAll K H vs ds → DaAll K H (v :: vs) (d :: ds)
inductive DaKV (K : PySem.W.Frag) (H : Hp) : List (Key × V) → List (PyData × PyData) → Prop
  | nil : DaKV K H [] []
  | cons {k : Key} {v : V} {kvs : List (Key × V)} {d : PyData} {ds : List (PyData × PyData)} : Da K H v d → DaKV K H kvs ds → DaKV K H ((k, v) :: kvs) ((keyD k, d) :: ds)
end

section
variable {K : PySem.W.Frag} {H H' : Hp}
theorem Same.tupq {a : Addr} {xs : List V} (e : Same H H') (h : SqT K H a xs) : SqT K H' a xs := by
  rcases h with (h | ⟨o, h⟩) | h
  · exact .inl (.inl (e _ _ h))
  · exact .inl (.inr ⟨o, e _ _ h⟩)
  · exact .inr h
theorem da_mono (e : Same H H') {v : V} {d : PyData} (h : Da K H v d) : Da K H' v d :=
  Da.rec (K := K) (H := H) (motive_1 := fun v d _ => Da K H' v d) (motive_2 := fun vs ds _ => DaAll K H' vs ds) (motive_3 := fun vs ds _ => DaKV K H' vs ds)
    .non .bl .int .str (fun h _ ih => .lst (e _ _ h) ih) (fun h _ ih => .tup (Same.tupq e h) ih) (fun h _ ih => .dct (e _ _ h) ih) .nil (fun _ _ a b => .cons a b) .nil (fun _ _ a b => .cons a b) h
theorem daAll_mono (e : Same H H') {vs : List V} {ds : List PyData} (h : DaAll K H vs ds) : DaAll K H' vs ds :=
  DaAll.rec (K := K) (H := H) (motive_1 := fun v d _ => Da K H' v d) (motive_2 := fun vs ds _ => DaAll K H' vs ds) (motive_3 := fun vs ds _ => DaKV K H' vs ds)
    .non .bl .int .str (fun h _ ih => .lst (e _ _ h) ih) (fun h _ ih => .tup (Same.tupq e h) ih) (fun h _ ih => .dct (e _ _ h) ih) .nil (fun _ _ a b => .cons a b) .nil (fun _ _ a b => .cons a b) h
theorem DaAll.len : ∀ {vs : List V} {ds : List PyData}, DaAll K H vs ds → vs.length = ds.length
  | _, _, .nil => rfl
  | _, _, .cons _ t => by rw [List.length_cons, List.length_cons, t.len]
theorem DaAll.get : ∀ {vs : List V} {ds : List PyData} {i : Nat} {d : PyData}, DaAll K H vs ds → ds[i]? = some d → ∃ v, vs[i]? = some v ∧ Da K H v d
  | _, _, _, _, .nil, e => by simp at e
  | _, _, 0, _, .cons a _, e => by simp at e; subst e; exact ⟨_, rfl, a⟩
  | _, _, i + 1, d, .cons _ t, e => by
    obtain ⟨u, h1, h2⟩ := DaAll.get (i := i) (d := d) t (by simpa using e)
    exact ⟨u, by simpa using h1, h2⟩
theorem DaAll.getV : ∀ {vs : List V} {ds : List PyData} {i : Nat} {v : V}, DaAll K H vs ds → vs[i]? = some v → ∃ d, ds[i]? = some d ∧ Da K H v d
  | _, _, _, _, .nil, e => by simp at e
  | _, _, 0, _, .cons a _, e => by simp at e; subst e; exact ⟨_, rfl, a⟩
  | _, _, i + 1, d, .cons _ t, e => by
    obtain ⟨u, h1, h2⟩ := DaAll.getV (i := i) (v := d) t (by simpa using e)
    exact ⟨u, by simpa using h1, h2⟩
theorem DaAll.append : ∀ {vs ws : List V} {ds es : List PyData}, DaAll K H vs ds → DaAll K H ws es → DaAll K H (vs ++ ws) (ds ++ es)
  | _, _, _, _, .nil, h => h
  | _, _, _, _, .cons a t, h => .cons a (t.append h)
theorem DaAll.drop : ∀ {vs : List V} {ds : List PyData} (n : Nat), DaAll K H vs ds → DaAll K H (vs.drop n) (ds.drop n)
  | _, _, 0, h => h
  | _, _, _ + 1, .nil => .nil
  | _, _, n + 1, .cons _ t => t.drop n
theorem DaAll.take : ∀ {vs : List V} {ds : List PyData} (n : Nat), DaAll K H vs ds → DaAll K H (vs.take n) (ds.take n)
  | _, _, 0, _ => .nil
  | _, _, _ + 1, .nil => .nil
  | _, _, n + 1, .cons a t => .cons a (t.take n)
theorem DaAll.set {v : V} {d : PyData} (a : Da K H v d) : ∀ {vs : List V} {ds : List PyData} (i : Nat), DaAll K H vs ds → DaAll K H (vs.set i v) (ds.set i d)
  | _, _, _, .nil => .nil
  | _, _, 0, .cons _ t => .cons a t
  | _, _, i + 1, .cons b t => .cons b (t.set a i)
theorem daAll_ints : ∀ ns : List Int, DaAll K H (ns.map V.int) (ns.map PyData.int)
  | [] => .nil
  | n :: ns => .cons (.int n) (daAll_ints ns)
theorem daAll_bls : ∀ ns : List Bool, DaAll K H (ns.map V.bl) (ns.map PyData.bool)
  | [] => .nil
  | n :: ns => .cons (.bl n) (daAll_bls ns)
theorem daAll_ints_inv : ∀ {vs : List V} {ns : List Int}, DaAll K H vs (ns.map PyData.int) → vs = ns.map V.int
  | _, [], h => by cases h; rfl
  | _, n :: ns, h => by
    cases h with
    | cons a t => cases a; rw [daAll_ints_inv t]; rfl
theorem daAll_bls_inv : ∀ {vs : List V} {ns : List Bool}, DaAll K H vs (ns.map PyData.bool) → vs = ns.map V.bl
  | _, [], h => by cases h; rfl
  | _, n :: ns, h => by
    cases h with
    | cons a t => cases a; rw [daAll_bls_inv t]; rfl
theorem Da.tupI {v : V} {ds : List PyData} (h : Da K H v (.tuple ds)) : ∃ a xs, v = .ref a ∧ SqT K H a xs ∧ DaAll K H xs ds := by
  cases h with
  | tup h1 h2 => exact ⟨_, _, rfl, h1, h2⟩
theorem Da.lstI {v : V} {ds : List PyData} (h : Da K H v (.list ds)) : ∃ a xs, v = .ref a ∧ H a = some (.lst xs) ∧ DaAll K H xs ds := by
  cases h with
  | lst h1 h2 => exact ⟨_, _, rfl, h1, h2⟩
theorem Da.intI {v : V} {i : Int} (h : Da K H v (.int i)) : v = .int i := by cases h; rfl
theorem Da.blI {v : V} {b : Bool} (h : Da K H v (.bool b)) : v = .bl b := by cases h; rfl
theorem Da.strI {v : V} {b : Str} (h : Da K H v (.str b)) : v = .str b := by cases h; rfl
theorem Da.nonI {v : V} (h : Da K H v .none) : v = .non := by cases h; rfl
end

section
variable {X : Cx} {pins : List (Addr × Obj)} {σ : St} {H : Hp} {s : Shared}
theorem kv_reads {h : Heap} {P : Program} {w : World} : ∀ (kvs : List (Key × V)) (ds : List (PyData × PyData)) (vs : List (Key × Value)) (es : List DictEntry), DaKV X.K H kvs ds → KV kvs vs → Pairs (mixKind P w) es vs →
    ReadsAll h (es.map (·.key)) (ds.map (·.1)) []
  | [], ds, vs, es, hd, kv, pr => by
    cases hd
    cases kv
    cases pr
    exact .nil
  | (k, v) :: kvs, ds, vs, es, hd, kv, pr => by
    cases hd with
    | cons a t =>
      cases kv with
      | @cons p q l1 l2 r rs =>
        cases pr with
        | @cons e kw es2 kvs2 h1 h2 hp =>
          have ih := kv_reads (h := h) kvs _ _ _ t rs hp
          have e1 : k = q.1 := r.1
          have h1' : keyIs k e.key = true := by rw [e1]; exact h1
          rcases keyIs_shape h1' with ⟨i, t, e3, e2⟩ | ⟨x, t, e3, e2⟩
          · subst e3
            show ReadsAll h (e.key :: _) (PyData.int i :: _) []
            rw [e2]
            exact ReadsAll.cons (as := []) (bs := []) (Reads.int i t) ih
          · subst e3
            show ReadsAll h (e.key :: _) (PyData.str x :: _) []
            rw [e2]
            exact ReadsAll.cons (as := []) (bs := []) (Reads.str x t) ih
theorem da_reads (I : Inv X pins σ H s) {v : V} {d : PyData} (h : Da X.K H v d) : ∀ u, RelV v u → ∃ as, Reads s.heap u d as :=
  Da.rec (K := X.K) (H := H) (motive_1 := fun v d _ => ∀ u, RelV v u → ∃ as, Reads s.heap u d as) (motive_2 := fun vs ds _ => ∀ us, Vals vs us → ∃ as, ReadsAll s.heap us ds as)
    (motive_3 := fun kvs ds _ => ∀ (vs : List (Key × Value)) (es : List DictEntry), KV kvs vs → Pairs (mixKind X.prog X.w) es vs → ∃ as, ReadsAll s.heap (es.map (·.val)) (ds.map (·.2)) as)
    (fun u r => by cases r; exact ⟨_, Reads.none⟩)
    (fun b u r => by cases r; exact ⟨_, Reads.bool b⟩)
    (fun i u r => by obtain ⟨t, rfl⟩ := r; exact ⟨_, Reads.int i t⟩)
    (fun i u r => by obtain ⟨t, rfl⟩ := r; exact ⟨_, Reads.str i t⟩)
    (fun hs _ ih u r => by
      cases r
      obtain ⟨its, rv, ⟨o, n, ho, hc, _, hd⟩, _⟩ := I.list (SqL.of hs)
      obtain ⟨as, hr⟩ := ih its rv
      exact ⟨_, Reads.list ho hc hd hr⟩)
    (fun hs _ ih u r => by
      cases r
      obtain ⟨its, rv, ⟨o, ho, hc, n, hd⟩, _⟩ := I.tuple hs
      obtain ⟨as, hr⟩ := ih its rv
      exact ⟨_, Reads.tuple ho hc hd hr⟩)
    (fun {a kvs ds} ha hkv ih u r => by
      cases (show u = Value.ref a from r)
      obtain ⟨_, _, vs, kv, o, es, ep, e, ex, ed, _, pr, _⟩ := (show ObjOk X.prog X.w H s.heap a (.dK kvs) from I.hok a _ ha)
      obtain ⟨as, hr⟩ := ih vs es.toList kv pr
      exact ⟨_, Reads.dict e ex.1 ed (kv_reads _ _ _ _ hkv kv pr) hr⟩)
    (fun us r => by cases r; exact ⟨_, ReadsAll.nil⟩)
    (fun _ _ ih1 ih2 us r => by
      cases r with
      | cons r1 r2 =>
        obtain ⟨as, q1⟩ := ih1 _ r1
        obtain ⟨bs, q2⟩ := ih2 _ r2
        exact ⟨_, ReadsAll.cons q1 q2⟩)
    (fun vs es kv pr => by cases kv; cases pr; exact ⟨_, ReadsAll.nil⟩)
    (fun _ _ ih1 ih2 vs es kv pr => by
      cases kv with
      | cons r rs =>
        cases pr with
        | cons h1 h2 hp =>
          obtain ⟨as, q1⟩ := ih1 _ (show RelV _ _ from h2 ▸ r.2)
          obtain ⟨bs, q2⟩ := ih2 _ _ rs hp
          exact ⟨_, ReadsAll.cons q1 q2⟩) h
theorem daAll_reads (I : Inv X pins σ H s) : ∀ {vs : List V} {ds : List PyData} {us : List Value}, DaAll X.K H vs ds → Vals vs us → ∃ as, ReadsAll s.heap us ds as
  | _, _, _, .nil, .nil => ⟨_, .nil⟩
  | _, _, _, .cons a t, .cons r rs => by
    obtain ⟨as, q1⟩ := da_reads I a _ r
    obtain ⟨bs, q2⟩ := daAll_reads I t rs
    exact ⟨_, .cons q1 q2⟩
end
end Wn
set_option Elab.async false
set_option linter.all false
set_option maxRecDepth 100000
set_option maxHeartbeats 2000000
namespace Wn
open PySem L2

theorem same_new {H : Hp} {p : Addr} {o : HO} (h : H p = none) : Same H (upd H p o) := fun a u e => by
  rw [upd_ne (ne_of_none e h)]; exact e
theorem same_upd {G H : Hp} {p : Addr} {o : HO} (h : Same G H) : Same (upd G p o) (upd H p o) := fun a u e => by
  by_cases q : a = p
  · subst q; rw [upd_same] at e ⊢; exact e
  · rw [upd_ne q] at e ⊢; exact h a u e

/-! ### a dict by tuples (of tuples, numbers, texts), its keys' own tuples told -/
def DnB (w : World) (a : Addr) (fs : List (NestedKey × Addr × V)) (h : Heap) : Prop :=
  (a == sysModules) = false ∧ fs.length ≤ sizeLine ∧ ∃ (o : Obj) (es : Array DictEntry) (ep : Nat) (us : List (NestedKey × Addr × Value)), h.get? a = some o ∧ o.ExactDict ∧ o.data = .dict es ep ∧
    Paired (fun (p : NestedKey × Addr × V) (q : NestedKey × Addr × Value) => p.1 = q.1 ∧ p.2.1 = q.2.1 ∧ RelV p.2.2 q.2.2) fs us ∧ es.toList = us.map (fun x => (⟨x.1.hash w, .ref x.2.1, x.2.2⟩ : DictEntry)) ∧ (us.map (·.1)).Nodup
def DnO (w : World) (a : Addr) (fs : List (NestedKey × Addr × V)) : HO := .ext (DnB w a fs)
/-! ### model values, model objects: what may change stands in a store, by numbers; data is what never changes -/
inductive MV where
  | d (x : PyData)
  | r (i : Nat)
  | t (n : String)
  | s (ns : List Int)
  | x (a : Addr)
  | e (a dd : Addr) (i : Nat)
  | pr (i j : Nat)
inductive MO where
  | lst (xs : List MV)
  | ins (C : Addr) (fs : List (Str × MV))
  | dct (kvs : List (Key × MV))
  | dtp (kvs : List (List Key × MV))
  | o (u : HO)
  | xdo (gs : List (Str × MV))
  | dn (w : World) (kvs : List (NestedKey × MV))
  | fz (o : Obj) (v : HO) (u : MO)
abbrev Mm := List MO
abbrev Ro := List (Option MV)
abbrev QV := MV → Mm → Prop
def MV.sc (n : Nat) : MV → Prop
  | .d _ => True
  | .r i => i < n
  | .t _ => True
  | .s _ => True
  | .x _ => True
  | .e _ _ i => i < n
  | .pr i j => i < n ∧ j < n
def MO.sc (n : Nat) : MO → Prop
  | .lst xs => ∀ x ∈ xs, x.sc n
  | .ins _ fs => ∀ p ∈ fs, p.2.sc n
  | .dct kvs => ∀ p ∈ kvs, p.2.sc n
  | .dtp kvs => ∀ p ∈ kvs, p.2.sc n
  | .o _ => True
  | .xdo fs => ∀ p ∈ fs, p.2.sc n
  | .dn _ kvs => ∀ p ∈ kvs, p.2.sc n
  | .fz _ _ u => u.sc n
def Scd (m : Mm) : Prop := ∀ o ∈ m, o.sc m.length

section
variable (K : PySem.W.Frag) (G : Hp) (π : List Addr)
def Rv (v : V) : MV → Prop
  | .d x => Da K G v x
  | .r i => ∃ a, π[i]? = some a ∧ v = .ref a
  | .t n => v = .ty n
  | .s ns => ∃ a, v = .ref a ∧ SqL K G a (ns.map V.int)
  | .x a => v = .ref a
  | .e a dd i => v = .ref a ∧ π[i]? = some dd
  | .pr i j => ∃ a b c, v = .ref a ∧ SqT K G a [.ref b, .ref c] ∧ π[i]? = some b ∧ π[j]? = some c
abbrev Rvs : List V → List MV → Prop := Paired (Rv K G π)
def Rf (p : Str × V) (q : Str × MV) : Prop := p.1 = q.1 ∧ Rv K G π p.2 q.2
def Rkv (p : Key × V) (q : Key × MV) : Prop := p.1 = q.1 ∧ Rv K G π p.2 q.2
def Rkn (p : NestedKey × Addr × V) (q : NestedKey × MV) : Prop := p.1 = q.1 ∧ p.1.depth ≤ 8 ∧ Da K G (.ref p.2.1) p.1.data ∧ Rv K G π p.2.2 q.2
def Rkt (p : List Key × V) (q : List Key × MV) : Prop := p.1 = q.1 ∧ Rv K G π p.2 q.2
def RobA : MO → HO → Prop
  | .lst ys => fun u => ∃ xs, u = .lst xs ∧ Rvs K G π xs ys
  | .ins C gs => fun u => ∃ dx fs, u = .ins C dx fs ∧ Paired (Rf K G π) fs gs
  | .dct gs => fun u => ∃ fs, u = .dK fs ∧ Paired (Rkv K G π) fs gs
  | .dtp gs => fun u => ∃ fs, u = .dT fs ∧ Paired (Rkt K G π) fs gs
  | .o w => fun u => u = w
  | .xdo gs => fun u => ∃ fs, u = .xd fs ∧ Paired (Rf K G π) fs gs
  | .dn w gs => fun u => ∃ a fs, u = DnO w a fs ∧ Paired (Rkn K G π) fs gs
  | .fz ob v o => fun u => u = .frz ob v ∧ RobA o v
abbrev Rob (u : HO) (o : MO) : Prop := RobA K G π o u
end
/-- π: where the store's objects lie; G: where the data lie, in H -/
structure Hk (K : PySem.W.Frag) (π : List Addr) (G H : Hp) (m : Mm) : Prop where
  sub : Same G H
  len : π.length = m.length
  nd : π.Nodup
  hid : ∀ a ∈ π, G a = none
  obj : ∀ (i : Nat) (o : MO), m[i]? = some o → ∃ a u, π[i]? = some a ∧ H a = some u ∧ Rob K G π u o
structure Sk (K : PySem.W.Frag) (π : List Addr) (G : Hp) (σ : St) (ρ : Ro) : Prop where
  len : σ.length = ρ.length
  get : ∀ (i : Nat) (x : MV), ρ[i]? = some (some x) → ∃ v, σ[i]? = some (some v) ∧ Rv K G π v x
structure Xt (π : List Addr) (G H : Hp) (π' : List Addr) (G' H' : Hp) : Prop where
  g : Same G G'
  p : ∃ τ, π' = π ++ τ ∧ ∀ a ∈ τ, H a = none
  fr : ∀ a o, H a = some o → a ∉ π → H' a = some o
  al : ∀ a, H a ≠ none → H' a ≠ none
  n : ∀ a u, H a = some u → a ∉ π → (∀ xs, u ≠ .tup xs) → G a = none → G' a = none

section
variable {K : PySem.W.Frag} {π π' π1 π2 : List Addr} {G H G' H' G1 H1 G2 H2 : Hp} {m : Mm} {v : V} {x : MV}
theorem Xt.refl : Xt π G H π G H := ⟨Same.refl G, ⟨[], by simp, by simp⟩, fun _ _ h _ => h, fun _ h => h, fun _ _ _ _ _ h => h⟩
theorem Xt.trans (a : Xt π G H π1 G1 H1) (b : Xt π1 G1 H1 π2 G2 H2) : Xt π G H π2 G2 H2 := by
  obtain ⟨τ, e1, f1⟩ := a.p
  obtain ⟨τ2, e2, f2⟩ := b.p
  have ni : ∀ c o, H c = some o → c ∉ π → c ∉ π1 := fun c o h nc hm => by
    rw [e1] at hm
    rcases List.mem_append.mp hm with hm | hm
    · exact nc hm
    · rw [f1 c hm] at h; cases h
  refine ⟨a.g.trans b.g, ⟨τ ++ τ2, by rw [e2, e1, List.append_assoc], fun c hc => ?_⟩, fun c o h nc => ?_, fun c h => b.al c (a.al c h), fun c o h nc nt hg => b.n c o (a.fr c o h nc) (ni c o h nc) nt (a.n c o h nc nt hg)⟩
  · rcases List.mem_append.mp hc with hc | hc
    · exact f1 c hc
    · cases e : H c with
      | none => rfl
      | some o => exact absurd (f2 c hc) (a.al c (by rw [e]; simp))
  · refine b.fr c o (a.fr c o h nc) fun hm => ?_
    rw [e1] at hm
    rcases List.mem_append.mp hm with hm | hm
    · exact nc hm
    · rw [f1 c hm] at h; cases h
theorem Xt.get (a : Xt π G H π' G' H') {i : Nat} {c : Addr} (h : π[i]? = some c) : π'[i]? = some c := by
  obtain ⟨τ, e, _⟩ := a.p
  rw [e, List.getElem?_append_left (by
    by_cases q : i < π.length
    · exact q
    · rw [List.getElem?_eq_none (by omega)] at h; cases h)]
  exact h
theorem Rv.mono (h : Rv K G π v x) (g : Same G G') (p : ∀ (i : Nat) (c : Addr), π[i]? = some c → π'[i]? = some c) : Rv K G' π' v x := by
  cases x with
  | d y => exact da_mono g h
  | r i => obtain ⟨a, h1, h2⟩ := h; exact ⟨a, p i a h1, h2⟩
  | t n => exact h
  | s ns => obtain ⟨a, h1, h2⟩ := h; exact ⟨a, h1, g.seq h2⟩
  | x a => exact h
  | e a dd i => exact ⟨h.1, p i _ h.2⟩
  | pr i j => obtain ⟨a, b, c, h1, h2, h3, h4⟩ := h; exact ⟨a, b, c, h1, Same.tupq g h2, p i b h3, p j c h4⟩
theorem Rv.xt (h : Rv K G π v x) (e : Xt π G H π' G' H') : Rv K G' π' v x := h.mono e.g fun _ _ => e.get
theorem Rvs.mono {vs : List V} {xs : List MV} (h : Rvs K G π vs xs) (g : Same G G') (p : ∀ (i : Nat) (c : Addr), π[i]? = some c → π'[i]? = some c) : Rvs K G' π' vs xs := Paired.mapP h fun _ _ q => q.mono g p
theorem Rvs.xt {vs : List V} {xs : List MV} (h : Rvs K G π vs xs) (e : Xt π G H π' G' H') : Rvs K G' π' vs xs := Rvs.mono h e.g fun _ _ => e.get
theorem Rob.mono {o : MO} (g : Same G G') (p : ∀ (i : Nat) (c : Addr), π[i]? = some c → π'[i]? = some c) : ∀ {u : HO}, Rob K G π u o → Rob K G' π' u o := by
  induction o with
  | lst ys => intro u h; obtain ⟨xs, e, q⟩ := h; exact ⟨xs, e, Rvs.mono q g p⟩
  | ins C gs => intro u h; obtain ⟨dx, fs, e, q⟩ := h; exact ⟨dx, fs, e, Paired.mapP q fun _ _ z => ⟨z.1, z.2.mono g p⟩⟩
  | dct gs => intro u h; obtain ⟨fs, e, q⟩ := h; exact ⟨fs, e, Paired.mapP q fun _ _ z => ⟨z.1, z.2.mono g p⟩⟩
  | dtp gs => intro u h; obtain ⟨fs, e, q⟩ := h; exact ⟨fs, e, Paired.mapP q fun _ _ z => ⟨z.1, z.2.mono g p⟩⟩
  | o _ => intro u h; exact h
  | xdo gs => intro u h; obtain ⟨fs, e, q⟩ := h; exact ⟨fs, e, Paired.mapP q fun _ _ z => ⟨z.1, z.2.mono g p⟩⟩
  | dn w gs => intro u h; obtain ⟨a, fs, e, q⟩ := h; exact ⟨a, fs, e, Paired.mapP q fun _ _ z => ⟨z.1, z.2.1, da_mono g z.2.2.1, z.2.2.2.mono g p⟩⟩
  | fz ob v o ih => intro u h; exact ⟨h.1, ih h.2⟩
theorem Sk.xt {σ : St} {ρ : Ro} (h : Sk K π G σ ρ) (e : Xt π G H π' G' H') : Sk K π' G' σ ρ := ⟨h.len, fun i x q => let ⟨v, q1, q2⟩ := h.get i x q; ⟨v, q1, q2.xt e⟩⟩
theorem Hk.mem (h : Hk K π G H m) {a : Addr} (ha : a ∈ π) : ∃ u, H a = some u := by
  obtain ⟨i, hi, e⟩ := List.mem_iff_getElem.mp ha
  have hl : i < m.length := by rw [← h.len]; exact hi
  obtain ⟨b, u, h1, h2, _⟩ := h.obj i m[i] (by simp [hl])
  rw [List.getElem?_eq_getElem hi, e] at h1
  cases h1
  exact ⟨u, h2⟩
/-- more objects that nobody speaks of -/
theorem Hk.grow (h : Hk K π G H m) (s : Same H H') : Hk K π G H' m := ⟨h.sub.trans s, h.len, h.nd, h.hid, fun i o q => let ⟨a, u, h1, h2, h3⟩ := h.obj i o q; ⟨a, u, h1, s _ _ h2, h3⟩⟩
theorem Hk.nin (h : Hk K π G H m) {p : Addr} (hp : H p = none) : p ∉ π := fun q => by
  obtain ⟨u, e⟩ := h.mem q
  rw [e] at hp; cases hp
/-- a hidden object becomes data -/
theorem Hk.seal (h : Hk K π G H m) {p : Addr} {o : HO} (hp : H p = some o) (hn : p ∉ π) (hg : G p = none) : Hk K π (upd G p o) H m := by
  have sg : Same G (upd G p o) := same_new hg
  refine ⟨fun a u e => ?_, h.len, h.nd, fun a ha => ?_, fun i u q => let ⟨a, w, h1, h2, h3⟩ := h.obj i u q; ⟨a, w, h1, h2, Rob.mono sg (fun _ _ z => z) h3⟩⟩
  · by_cases q : a = p
    · subst q; rw [upd_same] at e; cases e; exact hp
    · rw [upd_ne q] at e; exact h.sub a u e
  · rw [upd_ne (fun z => hn (by rw [← z]; exact ha))]; exact h.hid a ha
/-- a new object of data -/
theorem Hk.new (h : Hk K π G H m) {p : Addr} {o : HO} (hp : H p = none) : Hk K π (upd G p o) (upd H p o) m :=
  (h.grow (same_new hp)).seal upd_same (h.nin hp) (h.sub.free hp)
theorem Xt.new {p : Addr} {o : HO} (hp : H p = none) (hg : G p = none) : Xt π G H π (upd G p o) (upd H p o) :=
  ⟨same_new hg, ⟨[], by simp, by simp⟩, fun a u h _ => by rw [upd_ne (ne_of_none h hp)]; exact h, fun a h => by
    by_cases q : a = p
    · subst q; rw [upd_same]; simp
    · rw [upd_ne q]; exact h, fun a _ h _ _ q => by
    rw [upd_ne (fun z => by subst z; rw [hp] at h; cases h)]; exact q⟩
/-- a hidden object becomes one of the store -/
theorem Hk.own (h : Hk K π G H m) {p : Addr} {u : HO} {o : MO} (hp : H p = some u) (hn : p ∉ π) (hg : G p = none) (r : Rob K G (π ++ [p]) u o) : Hk K (π ++ [p]) G H (m ++ [o]) := by
  have mo : ∀ (i : Nat) (c : Addr), π[i]? = some c → (π ++ [p])[i]? = some c := fun i c q => by
    rw [List.getElem?_append_left (by
      by_cases z : i < π.length
      · exact z
      · rw [List.getElem?_eq_none (by omega)] at q; cases q)]
    exact q
  refine ⟨h.sub, by simp [h.len], ?_, fun a ha => ?_, fun i w q => ?_⟩
  · rw [List.nodup_append]
    refine ⟨h.nd, by simp, fun a ha b hb e => ?_⟩
    simp at hb
    subst hb; subst e
    exact hn ha
  · rcases List.mem_append.mp ha with ha | ha
    · exact h.hid a ha
    · simp at ha; subst ha; exact hg
  · by_cases hi : i < m.length
    · rw [List.getElem?_append_left hi] at q
      obtain ⟨a, w', h1, h2, h3⟩ := h.obj i w q
      exact ⟨a, w', mo _ _ h1, h2, Rob.mono (Same.refl G) mo h3⟩
    · have e : i = m.length := by
        by_cases z : i = m.length
        · exact z
        · rw [List.getElem?_eq_none (by simp; omega)] at q; cases q
      subst e
      rw [List.getElem?_append_right (Nat.le_refl _)] at q
      simp at q
      subst q
      refine ⟨p, u, ?_, hp, r⟩
      rw [List.getElem?_append_right (by rw [h.len]; exact Nat.le_refl _)]
      simp [h.len]
theorem Hk.alloc (h : Hk K π G H m) {p : Addr} {u : HO} {o : MO} (hp : H p = none) (r : Rob K G (π ++ [p]) u o) : Hk K (π ++ [p]) G (upd H p u) (m ++ [o]) :=
  (h.grow (same_new hp)).own upd_same (h.nin hp) (h.sub.free hp) r
theorem Xt.alloc {p : Addr} {u : HO} (hp : H p = none) : Xt π G H (π ++ [p]) G (upd H p u) :=
  ⟨Same.refl G, ⟨[p], rfl, fun a ha => by simp at ha; subst ha; exact hp⟩, fun a u h _ => by rw [upd_ne (ne_of_none h hp)]; exact h, fun a h => by
    by_cases q : a = p
    · subst q; rw [upd_same]; simp
    · rw [upd_ne q]; exact h, fun a _ _ _ _ q => q⟩
theorem Hk.write (h : Hk K π G H m) {i : Nat} {a : Addr} {u : HO} {o : MO} (hi : π[i]? = some a) (r : Rob K G π u o) : Hk K π G (upd H a u) (m.set i o) := by
  have ha : a ∈ π := List.mem_of_getElem? hi
  refine ⟨fun b w e => ?_, by simp [h.len], h.nd, h.hid, fun j w q => ?_⟩
  · rw [upd_ne (fun z => by subst z; rw [h.hid _ ha] at e; cases e)]; exact h.sub b w e
  · by_cases e : i = j
    · subst e
      rw [List.getElem?_set_self (by
        by_cases z : i < m.length
        · exact z
        · rw [List.getElem?_eq_none (by simp; omega)] at q; cases q)] at q
      cases q
      exact ⟨a, u, hi, upd_same, r⟩
    · rw [List.getElem?_set_ne e] at q
      obtain ⟨b, w', h1, h2, h3⟩ := h.obj j w q
      refine ⟨b, w', h1, ?_, h3⟩
      rw [upd_ne (fun z => ?_)]
      · exact h2
      · subst z
        have l1 : i < π.length := by
          by_cases z : i < π.length
          · exact z
          · rw [List.getElem?_eq_none (by omega)] at hi; cases hi
        exact e ((List.getElem?_inj l1 h.nd).mp (hi.trans h1.symm))
theorem Xt.write {a : Addr} {u : HO} (ha : a ∈ π) : Xt π G H π G (upd H a u) :=
  ⟨Same.refl G, ⟨[], by simp, by simp⟩, fun b o h nb => by rw [upd_ne (fun z => nb (by rw [z]; exact ha))]; exact h, fun b h => by
    by_cases q : b = a
    · subst q; rw [upd_same]; simp
    · rw [upd_ne q]; exact h, fun _ _ _ _ _ q => q⟩
theorem Rv.sc (h : Rv K G π v x) : x.sc π.length := by
  cases x with
  | d _ => trivial
  | t _ => trivial
  | s _ => trivial
  | x _ => trivial
  | pr i j =>
    obtain ⟨_, _, _, _, _, h1, h2⟩ := h
    refine ⟨?_, ?_⟩
    · by_cases z : i < π.length
      · exact z
      · rw [List.getElem?_eq_none (by omega)] at h1; cases h1
    · by_cases z : j < π.length
      · exact z
      · rw [List.getElem?_eq_none (by omega)] at h2; cases h2
  | e _ _ i =>
    obtain ⟨_, h1⟩ := h
    show i < π.length
    by_cases z : i < π.length
    · exact z
    · rw [List.getElem?_eq_none (by omega)] at h1; cases h1
  | r i =>
    obtain ⟨a, h1, _⟩ := h
    show i < π.length
    by_cases z : i < π.length
    · exact z
    · rw [List.getElem?_eq_none (by omega)] at h1; cases h1
theorem paired_mem {α β : Type} {F : α → β → Prop} : ∀ {as : List α} {bs : List β}, Paired F as bs → ∀ b ∈ bs, ∃ a, F a b
  | _, _, .nil, b, h => by simp at h
  | _, _, .cons r t, b, h => by
    rcases List.mem_cons.mp h with rfl | h
    · exact ⟨_, r⟩
    · exact paired_mem t b h
theorem Rob.sc {o : MO} : ∀ {u : HO}, Rob K G π u o → o.sc π.length := by
  induction o with
  | lst ys =>
    intro u r
    obtain ⟨xs, _, q⟩ := r
    intro x hx
    obtain ⟨v, z⟩ := paired_mem q x hx
    exact z.sc
  | ins C gs =>
    intro u r
    obtain ⟨dx, fs, _, q⟩ := r
    intro p hp
    obtain ⟨v, z⟩ := paired_mem q p hp
    exact z.2.sc
  | dct gs =>
    intro u r
    obtain ⟨fs, _, q⟩ := r
    intro p hp
    obtain ⟨v, z⟩ := paired_mem q p hp
    exact z.2.sc
  | dtp gs =>
    intro u r
    obtain ⟨fs, _, q⟩ := r
    intro p hp
    obtain ⟨v, z⟩ := paired_mem q p hp
    exact z.2.sc
  | o _ => intro u r; trivial
  | xdo gs =>
    intro u r
    obtain ⟨fs, _, q⟩ := r
    intro p hp
    obtain ⟨v, z⟩ := paired_mem q p hp
    exact z.2.sc
  | dn w gs =>
    intro u r
    obtain ⟨a, fs, _, q⟩ := r
    intro p hp
    obtain ⟨v, z⟩ := paired_mem q p hp
    exact z.2.2.2.sc
  | fz ob v o ih => intro u r; exact ih r.2
theorem Hk.scd (h : Hk K π G H m) : Scd m := fun o ho => by
  obtain ⟨i, hi, e⟩ := List.mem_iff_getElem.mp ho
  obtain ⟨a, u, _, _, r⟩ := h.obj i o (by rw [List.getElem?_eq_getElem hi, e])
  rw [← h.len]
  exact Rob.sc r
theorem Rv.cut {n : Nat} (h : Rv K G π v x) (s : x.sc n) : Rv K G (π.take n) v x := by
  cases x with
  | d _ => exact h
  | t _ => exact h
  | s _ => exact h
  | x _ => exact h
  | pr i j =>
    obtain ⟨a, b, c, h1, h2, h3, h4⟩ := h
    exact ⟨a, b, c, h1, h2, by rw [List.getElem?_take_of_lt s.1]; exact h3, by rw [List.getElem?_take_of_lt s.2]; exact h4⟩
  | e _ _ i =>
    obtain ⟨h1, h2⟩ := h
    exact ⟨h1, by rw [List.getElem?_take_of_lt s]; exact h2⟩
  | r i =>
    obtain ⟨a, h1, h2⟩ := h
    exact ⟨a, by rw [List.getElem?_take_of_lt s]; exact h1, h2⟩
theorem paired_map_mem {α β : Type} {F F' : α → β → Prop} : ∀ {as : List α} {bs : List β}, Paired F as bs → (∀ a, ∀ b ∈ bs, F a b → F' a b) → Paired F' as bs
  | _, _, .nil, _ => .nil
  | _, _, .cons r t, h => .cons (h _ _ List.mem_cons_self r) (paired_map_mem t fun a b hb => h a b (List.mem_cons_of_mem _ hb))
theorem Rob.cut {n : Nat} {o : MO} (so : o.sc n) : ∀ {u : HO}, Rob K G π u o → Rob K G (π.take n) u o := by
  induction o with
  | lst ys => intro u h3; obtain ⟨xs, e, q⟩ := h3; exact ⟨xs, e, paired_map_mem q fun a b hb r => r.cut (so b hb)⟩
  | ins C gs => intro u h3; obtain ⟨dx, fs, e, q⟩ := h3; exact ⟨dx, fs, e, paired_map_mem q fun a b hb r => ⟨r.1, r.2.cut (so b hb)⟩⟩
  | dct gs => intro u h3; obtain ⟨fs, e, q⟩ := h3; exact ⟨fs, e, paired_map_mem q fun a b hb r => ⟨r.1, r.2.cut (so b hb)⟩⟩
  | dtp gs => intro u h3; obtain ⟨fs, e, q⟩ := h3; exact ⟨fs, e, paired_map_mem q fun a b hb r => ⟨r.1, r.2.cut (so b hb)⟩⟩
  | o _ => intro u h3; exact h3
  | xdo gs => intro u h3; obtain ⟨fs, e, q⟩ := h3; exact ⟨fs, e, paired_map_mem q fun a b hb r => ⟨r.1, r.2.cut (so b hb)⟩⟩
  | dn w gs => intro u h3; obtain ⟨a, fs, e, q⟩ := h3; exact ⟨a, fs, e, paired_map_mem q fun a b hb r => ⟨r.1, r.2.1, r.2.2.1, r.2.2.2.cut (so b hb)⟩⟩
  | fz ob v o ih => intro u h3; exact ⟨h3.1, ih so h3.2⟩
/-- the younger part of the store is forgotten -/
theorem Hk.drop (h : Hk K π G H m) {n : Nat} (s : ∀ o ∈ m.take n, o.sc n) : Hk K (π.take n) G H (m.take n) := by
  refine ⟨h.sub, by simp [h.len], h.nd.sublist (List.take_sublist _ _), fun a ha => h.hid a (List.mem_of_mem_take ha), fun i o q => ?_⟩
  have hm : o ∈ m.take n := List.mem_of_getElem? q
  have hi : i < n := by
    by_cases z : i < n
    · exact z
    · rw [List.getElem?_eq_none (by simp; omega)] at q; cases q
  rw [List.getElem?_take_of_lt hi] at q
  obtain ⟨a, u, h1, h2, h3⟩ := h.obj i o q
  exact ⟨a, u, by rw [List.getElem?_take_of_lt hi]; exact h1, h2, Rob.cut (s o hm) h3⟩
end

/-! ### wishes -/
section
variable {K : PySem.W.Frag} {π π' π1 π2 : List Addr} {G H G' H' G1 H1 G2 H2 : Hp} {m : Mm} {v : V} {x : MV}
def Wv (K : PySem.W.Frag) (π : List Addr) (G H : Hp) (Q : QV) (R : VK) : Prop := ∀ v x π' G' H' m', Xt π G H π' G' H' → Hk K π' G' H' m' → Rv K G' π' v x → Q x m' → R v H'
theorem Wv.xt {Q : QV} {R : VK} (h : Wv K π G H Q R) (e : Xt π G H π1 G1 H1) : Wv K π1 G1 H1 Q R := fun v x π' G' H' m' e' => h v x π' G' H' m' (e.trans e')
/-- a new list: as data, or in the store -/
def NewL (acc : List MV) (m : Mm) (Q : QV) : Prop := (∃ ds : List PyData, acc = ds.map .d ∧ Q (.d (.list ds)) m) ∨ Q (.r m.length) (m ++ [.lst acc])
theorem rvs_data : ∀ {vs : List V} {ds : List PyData}, Rvs K G π vs (ds.map .d) → DaAll K G vs ds
  | _, [], h => by cases h; exact .nil
  | _, d :: ds, h => by cases h with | cons r t => exact .cons r (rvs_data t)
theorem data_rvs : ∀ {vs : List V} {ds : List PyData}, DaAll K G vs ds → Rvs K G π vs (ds.map .d)
  | _, _, .nil => .nil
  | _, _, .cons r t => .cons r (data_rvs t)
theorem newl_at {p : Addr} {vs : List V} {acc : List MV} {Q : QV} {R : VK} (h : Hk K π G H m) (hp : H p = some (.lst vs)) (hn : p ∉ π) (hg : G p = none) (rs : Rvs K G π vs acc) (q : NewL acc m Q)
    (w : ∀ x π' G' m', Same G G' → (∀ a, a ≠ p → G a = none → G' a = none) → (π' = π ∨ π' = π ++ [p]) → Hk K π' G' H m' → Rv K G' π' (.ref p) x → Q x m' → R (.ref p) H) : R (.ref p) H := by
  rcases q with ⟨ds, e, q⟩ | q
  · subst e
    refine w _ π (upd G p (.lst vs)) m (same_new hg) (fun a ha e => by rw [upd_ne ha]; exact e) (.inl rfl) (h.seal hp hn hg) ?_ q
    exact Da.lst upd_same (daAll_mono (same_new hg) (rvs_data rs))
  · have mo : ∀ (i : Nat) (c : Addr), π[i]? = some c → (π ++ [p])[i]? = some c := fun i c q => by
      rw [List.getElem?_append_left (by
        by_cases z : i < π.length
        · exact z
        · rw [List.getElem?_eq_none (by omega)] at q; cases q)]
      exact q
    have ro : Rob K G (π ++ [p]) (.lst vs) (.lst acc) := ⟨vs, rfl, Rvs.mono rs (Same.refl G) mo⟩
    refine w (.r m.length) (π ++ [p]) G _ (Same.refl G) (fun a _ e => e) (.inr rfl) (h.own hp hn hg ro) (show ∃ a, (π ++ [p])[m.length]? = some a ∧ V.ref p = V.ref a from ⟨p, ?_, rfl⟩) q
    rw [List.getElem?_append_right (by rw [h.len]; exact Nat.le_refl _)]
    simp [h.len]
/-- a new list, right behind its making -/
theorem newl {p : Addr} {vs : List V} {acc : List MV} {Q : QV} {R : VK} (h : Hk K π G H m) (hp : H p = none) (rs : Rvs K G π vs acc) (q : NewL acc m Q) (w : Wv K π G H Q R) : R (.ref p) (upd H p (.lst vs)) := by
  have hg := h.sub.free hp
  refine newl_at (K := K) (R := R) (h.grow (same_new hp)) upd_same (h.nin hp) hg rs q fun x π' G' m' sg ng e hk rx hq => ?_
  refine w _ x π' G' _ m' ⟨sg, ?_, fun a u h1 _ => by rw [upd_ne (ne_of_none h1 hp)]; exact h1, fun a h1 => ?_, fun a _ h1 _ _ h2 => ng a (fun z => by subst z; rw [hp] at h1; cases h1) h2⟩ hk rx hq
  · rcases e with e | e
    · exact ⟨[], by simp [e], by simp⟩
    · exact ⟨[p], e, fun a ha => by simp at ha; subst ha; exact hp⟩
  · by_cases z : a = p
    · subst z; rw [upd_same]; simp
    · rw [upd_ne z]; exact h1
/-- a new tuple of data -/
theorem newt {p : Addr} {vs : List V} {ds : List PyData} {Q : QV} {R : VK} (h : Hk K π G H m) (hp : H p = none) (rs : DaAll K G vs ds) (q : Q (.d (.tuple ds)) m) (w : Wv K π G H Q R) : R (.ref p) (upd H p (.tup vs)) :=
  w _ (.d (.tuple ds)) π (upd G p (.tup vs)) _ m (Xt.new hp (h.sub.free hp)) (h.new hp) (Da.tup (SqT.of upd_same) (daAll_mono (same_new (h.sub.free hp)) rs)) q
end
end Wn
set_option Elab.async false
set_option linter.all false
set_option maxRecDepth 100000
set_option maxHeartbeats 2000000
set_option autoImplicit false
namespace Wn
open PySem L2

/-- a family of contexts that differ in nothing that a rule looks at -/
structure Fam {ι : Type} (X : ι → Cx) (P : Program) (w : World) (K : PySem.W.Frag) (mg : Str → Option Value) (base : Heap) (N : List Str) (sc : Scope) (fv : Str → Bool) (k : Nat) : Prop where
  nd : N.Nodup
  cP : ∀ j, (X j).prog = P
  cW : ∀ j, (X j).w = w
  cK : ∀ j, (X j).K = K
  cM : ∀ j, (X j).mg = mg
  cB : ∀ j, (X j).base = base
  cN : ∀ j, (X j).N = N
  cS : ∀ j, (X j).env.scope = sc
  calm : ∀ j, (X j).calm = true
  room : ∀ j, Room k (X j).A
  px : ∀ j, PassesOwn (model (X j).prog (X j).w) (X j).A (X j).env (X j).xe
  cF : ∀ j, (X j).fn = fv

section
variable {ι : Type}
def TeOf (X : ι → Cx) (e : Expr) : TE := fun σ H Q => ∃ t, (∀ j, PE (X j) e t) ∧ t σ H Q
def TtOf (X : ι → Cx) (e : Expr) : TT := fun σ H Q => ∃ t, (∀ j, PT (X j) e t) ∧ t σ H Q
def TwOf (X : ι → Cx) (e : Expr) : TT := fun σ H Q => ∃ t, (∀ j, PW (X j) e t) ∧ t σ H Q
def TaOf (X : ι → Cx) (es : List Expr) : TA := fun σ H Q => ∃ t, (∀ j, PA (X j) es t) ∧ t σ H Q
def OpOf (X : ι → Cx) (f : Value → Value → Sem Value) : R2 := fun x y H Q => ∃ r, (∀ j, OpR (X j) f r) ∧ r x y H Q
def IxOf (X : ι → Cx) : R2 := fun x y H Q => ∃ r, (∀ j, IxR (X j) r) ∧ r x y H Q
def CaOf (X : ι → Cx) (f : Value) : List V → Hp → VK → Prop := fun xs H Q => ∃ r, (∀ j, CallR (X j) f r) ∧ r xs H Q
theorem teOf (X : ι → Cx) (e : Expr) (j : ι) : PE (X j) e (TeOf X e) := ⟨fun pins s σ H Q I ⟨t, p, h⟩ => (p j).run pins s σ H Q I h⟩
theorem ttOf (X : ι → Cx) (e : Expr) (j : ι) : PT (X j) e (TtOf X e) := ⟨fun pins s σ H Q I ⟨t, p, h⟩ => (p j).run pins s σ H Q I h⟩
theorem twOf (X : ι → Cx) (e : Expr) (j : ι) : PW (X j) e (TwOf X e) := ⟨fun wh pins s σ H Q I ⟨t, p, h⟩ => (p j).run wh pins s σ H Q I h⟩
theorem taOf (X : ι → Cx) (e : List Expr) (j : ι) : PA (X j) e (TaOf X e) := ⟨fun pos pins s σ H Q I ⟨t, p, h⟩ => (p j).run pos pins s σ H Q I h⟩
theorem opOf (X : ι → Cx) (f : Value → Value → Sem Value) (j : ι) : OpR (X j) f (OpOf X f) := fun pins s σ H x y v u Q I rx ry ⟨r, p, h⟩ => p j pins s σ H x y v u Q I rx ry h
theorem ixOf (X : ι → Cx) (j : ι) : IxR (X j) (IxOf X) := fun va sl pins s σ H x y v u Q I rx ry ⟨r, p, h⟩ => p j va sl pins s σ H x y v u Q I rx ry h
theorem caOf (X : ι → Cx) (f : Value) (j : ι) : CallR (X j) f (CaOf X f) := fun pins s σ H xs us Q I rs ⟨r, p, h⟩ => p j pins s σ H xs us Q I rs h

def Wb (K : PySem.W.Frag) (π : List Addr) (G H : Hp) (Q : Bool → Mm → Prop) (R : Bool → Hp → Prop) : Prop := ∀ b π' G' H' m', Xt π G H π' G' H' → Hk K π' G' H' m' → Q b m' → R b H'
def Wl (K : PySem.W.Frag) (π : List Addr) (G H : Hp) (Q : List MV → Mm → Prop) (R : List V → Hp → Prop) : Prop := ∀ vs xs π' G' H' m', Xt π G H π' G' H' → Hk K π' G' H' m' → Rvs K G' π' vs xs → Q xs m' → R vs H'
def We (X : ι → Cx) (K : PySem.W.Frag) (e : Expr) (ρ : Ro) (m : Mm) (Q : QV) : Prop := ∀ π G σ H R, Hk K π G H m → Sk K π G σ ρ → Wv K π G H Q R → TeOf X e σ H R
def Wt (X : ι → Cx) (K : PySem.W.Frag) (e : Expr) (ρ : Ro) (m : Mm) (Q : Bool → Mm → Prop) : Prop := ∀ π G σ H R, Hk K π G H m → Sk K π G σ ρ → Wb K π G H Q R → TtOf X e σ H R
def Ww (X : ι → Cx) (K : PySem.W.Frag) (e : Expr) (ρ : Ro) (m : Mm) (Q : Bool → Mm → Prop) : Prop := ∀ π G σ H R, Hk K π G H m → Sk K π G σ ρ → Wb K π G H Q R → TwOf X e σ H R
def Wr (X : ι → Cx) (K : PySem.W.Frag) (es : List Expr) (ρ : Ro) (m : Mm) (Q : List MV → Mm → Prop) : Prop := ∀ π G σ H R, Hk K π G H m → Sk K π G σ ρ → Wl K π G H Q R → TaOf X es σ H R
def OpW (X : ι → Cx) (K : PySem.W.Frag) (f : Value → Value → Sem Value) (x y : MV) (m : Mm) (Q : QV) : Prop := ∀ π G H R u v, Hk K π G H m → Rv K G π u x → Rv K G π v y → Wv K π G H Q R → OpOf X f u v H R
def IxW (X : ι → Cx) (K : PySem.W.Frag) (x y : MV) (m : Mm) (Q : QV) : Prop := ∀ π G H R u v, Hk K π G H m → Rv K G π u x → Rv K G π v y → Wv K π G H Q R → IxOf X u v H R
def CaW (X : ι → Cx) (K : PySem.W.Frag) (f : Value) (xs : List MV) (m : Mm) (Q : QV) : Prop := ∀ π G H R vs, Hk K π G H m → Rvs K G π vs xs → Wv K π G H Q R → CaOf X f vs H R
end

section
variable {ι : Type} {X : ι → Cx} {P : Program} {w : World} {K : PySem.W.Frag} {mg : Str → Option Value} {base : Heap} {N : List Str} {sc : Scope} {fv : Str → Bool} {k : Nat} {ρ : Ro} {m : Mm} {Q Q' : QV} {a b c e : Expr} {pos p : Pos} {x y z : MV}
theorem We.mono (h : We X K e ρ m Q) (q : ∀ x m', Q x m' → Q' x m') : We X K e ρ m Q' := fun π G σ H R hk sk wv => h π G σ H R hk sk fun v x π' G' H' m' e hk' rv hq => wv v x π' G' H' m' e hk' rv (q x m' hq)
theorem Wt.mono {Q Q' : Bool → Mm → Prop} (h : Wt X K e ρ m Q) (q : ∀ x m', Q x m' → Q' x m') : Wt X K e ρ m Q' := fun π G σ H R hk sk wv => h π G σ H R hk sk fun v π' G' H' m' e hk' hq => wv v π' G' H' m' e hk' (q v m' hq)
theorem Wr.mono {es : List Expr} {Q Q' : List MV → Mm → Prop} (h : Wr X K es ρ m Q) (q : ∀ x m', Q x m' → Q' x m') : Wr X K es ρ m Q' := fun π G σ H R hk sk wv => h π G σ H R hk sk fun v x π' G' H' m' e hk' rv hq => wv v x π' G' H' m' e hk' rv (q x m' hq)
/-! names, constants -/
theorem we_var (F : Fam X P w K mg base N sc fv k) (i : Nat) {nm : Str} (hr : ρ[i]? = some (some x)) (q : Q x m) (hN : N[i]? = some nm := by rfl) (hv : Vis sc nm := by first | exact Or.inl rfl | exact Or.inr (Or.inl rfl) | exact Or.inr (Or.inr rfl))
    (hd : (nm == ("__debug__" : Str)) = false := by decide) (hcd : (nm == ("__classdict__" : Str)) = false := by decide) : We X K (.Name nm pos) ρ m Q := fun π G σ H R hk sk wv =>
  ⟨_, fun j => pe_var (i := i) (by rw [F.cN]; exact hN) (by rw [F.cS]; exact hv) hd hcd, let ⟨v, q1, q2⟩ := sk.get i x hr; ⟨v, q1, wv v x π G H m Xt.refl hk q2 q⟩⟩
theorem we_c {v : V} {d : PyData} (h : ∀ j, PE (X j) e (tC v)) (hd : ∀ G, Da K G v d) (q : Q (.d d) m) : We X K e ρ m Q := fun π G σ H R hk sk wv => ⟨_, h, wv v (.d d) π G H m Xt.refl hk (hd G) q⟩
theorem we_int {i : Int} {n : Nat} (q : Q (.d (.int i)) m) : We X K (.Constant (.int i) n pos) ρ m Q := we_c (fun _ => pe_int) (fun _ => .int i) q
theorem we_bl {i : Bool} {n : Nat} (q : Q (.d (.bool i)) m) : We X K (.Constant (.bool i) n pos) ρ m Q := we_c (fun _ => pe_bl) (fun _ => .bl i) q
theorem we_non {n : Nat} (q : Q (.d .none) m) : We X K (.Constant .none n pos) ρ m Q := we_c (fun _ => pe_non) (fun _ => .non) q
theorem we_str {i : Str} {n : Nat} (q : Q (.d (.str i)) m) : We X K (.Constant (.str i) n pos) ρ m Q := we_c (fun _ => pe_str) (fun _ => .str i) q
theorem Fam.gl (F : Fam X P w K mg base N sc fv k) {nm : Str} (h : sc.names.lookup nm = some .globalImplicit) (j : ι) : Gl (X j) nm := by
  show (X j).env.scope.names.lookup nm = _
  rw [F.cS]; exact h
theorem we_gint (F : Fam X P w K mg base N sc fv k) {nm : Str} {i : Int} (hm : ∃ t, mg nm = some (.int i t)) (q : Q (.d (.int i)) m) (hg : sc.names.lookup nm = some .globalImplicit := by rfl) (hb : (nm == ("__debug__" : Str)) = false := by decide) : We X K (.Name nm pos) ρ m Q := by
  obtain ⟨t, hm⟩ := hm
  exact we_c (v := .int i) (fun j => pe_glob (F.gl hg j) (by rw [F.cM j]; exact hm) ⟨t, rfl⟩ hb) (fun _ => .int i) q
/-! operators -/
theorem we_op {f : Value → Value → Sem Value} (hp : ∀ (j : ι) (r : R2) (ta tb : TE), OpR (X j) f r → PE (X j) a ta → PE (X j) b tb → PE (X j) c (tOp r ta tb)) (h : We X K a ρ m fun x m1 => We X K b ρ m1 fun y m2 => OpW X K f x y m2 Q) : We X K c ρ m Q := fun π G σ H R hk sk wv =>
  ⟨_, fun j => hp j _ _ _ (opOf X f j) (teOf X a j) (teOf X b j), h π G σ H _ hk sk fun u x π1 G1 H1 m1 e1 hk1 ru q1 => q1 π1 G1 σ H1 _ hk1 (sk.xt e1) fun v y π2 G2 H2 m2 e2 hk2 rv q2 =>
    q2 π2 G2 H2 R u v hk2 (ru.xt e2) rv (wv.xt (e1.trans e2))⟩
theorem we_bin {op : Operator} (h : We X K a ρ m fun x m1 => We X K b ρ m1 fun y m2 => OpW X K (binaryOp op) x y m2 Q) : We X K (.BinOp a op b pos) ρ m Q := we_op (fun j r ta tb ho ha hb => pe_op ho ha hb) h
theorem we_cmp {op : CmpOp} (h : We X K a ρ m fun x m1 => We X K b ρ m1 fun y m2 => OpW X K (compareOp op) x y m2 Q) (hm : behindInMarks op b = false := by first | exact nomark _ | rfl) : We X K (.Compare a [op] [b] pos) ρ m Q := we_op (fun j r ta tb ho ha hb => pe_cmpR ho ha hb hm) h
theorem we_chain {op op' : CmpOp} (h : We X K a ρ m fun x m1 => We X K b ρ m1 fun y m2 => OpW X K (compareOp op) x y m2 fun z m3 => ∃ k : Bool, z = .d (.bool k) ∧ (if k = true then We X K c ρ m3 fun u m4 => OpW X K (compareOp op') y u m4 Q else Q (.d (.bool false)) m3))
    (hm : lastMarks [op, op'] [b, c] = false := by with_unfolding_all rfl) : We X K (.Compare a [op, op'] [b, c] pos) ρ m Q := fun π G σ H R hk sk wv => by
  refine ⟨_, fun j => pe_chain (opOf X (compareOp op) j) (opOf X (compareOp op') j) (teOf X a j) (teOf X b j) (teOf X c j) hm, ?_⟩
  refine h π G σ H _ hk sk fun u x π1 G1 H1 m1 e1 hk1 ru q1 => q1 π1 G1 σ H1 _ hk1 (sk.xt e1) fun v y π2 G2 H2 m2 e2 hk2 rv q2 => q2 π2 G2 H2 _ u v hk2 (ru.xt e2) rv fun z zx π3 G3 H3 m3 e3 hk3 rz ⟨kk, ez, q3⟩ => ?_
  subst ez
  have e13 := (e1.trans e2).trans e3
  refine ⟨kk, Da.blI rz, ?_⟩
  cases kk with
  | true =>
    rw [if_pos rfl] at q3 ⊢
    exact q3 π3 G3 σ H3 _ hk3 (sk.xt e13) fun v4 y4 π4 G4 H4 m4 e4 hk4 rv4 q4 => q4 π4 G4 H4 R v v4 hk4 (rv.xt (e3.trans e4)) rv4 (wv.xt (e13.trans e4))
  | false =>
    rw [if_neg Bool.false_ne_true] at q3 ⊢
    exact wv _ (.d (.bool false)) π3 G3 H3 m3 e13 hk3 (Da.bl false) q3
theorem we_one {op : BoolOp} (h : We X K a ρ m Q) : We X K (.BoolOp op [a] pos) ρ m Q := fun π G σ H R hk sk wv => ⟨_, fun j => pe_one (teOf X a j), h π G σ H R hk sk wv⟩
theorem we_and {rest : List Expr} (h : We X K a ρ m fun x m1 => ∃ k : Bool, x = .d (.bool k) ∧ (if k = true then We X K (.BoolOp .And (b :: rest) pos) ρ m1 Q else Q (.d (.bool false)) m1)) : We X K (.BoolOp .And (a :: b :: rest) pos) ρ m Q := fun π G σ H R hk sk wv =>
  ⟨_, fun j => pe_and (teOf X a j) (teOf X _ j), h π G σ H _ hk sk fun u x π1 G1 H1 m1 e1 hk1 ru ⟨k, ex, q1⟩ => by
    subst ex
    refine ⟨k, Da.blI ru, ?_⟩
    cases k with
    | true => rw [if_pos rfl] at q1 ⊢; exact q1 π1 G1 σ H1 R hk1 (sk.xt e1) (wv.xt e1)
    | false => rw [if_neg Bool.false_ne_true] at q1 ⊢; exact wv _ (.d (.bool false)) π1 G1 H1 m1 e1 hk1 (Da.bl false) q1⟩
theorem we_or {rest : List Expr} (h : We X K a ρ m fun x m1 => ∃ k : Bool, x = .d (.bool k) ∧ (if k = true then Q (.d (.bool true)) m1 else We X K (.BoolOp .Or (b :: rest) pos) ρ m1 Q)) : We X K (.BoolOp .Or (a :: b :: rest) pos) ρ m Q := fun π G σ H R hk sk wv =>
  ⟨_, fun j => pe_or (teOf X a j) (teOf X _ j), h π G σ H _ hk sk fun u x π1 G1 H1 m1 e1 hk1 ru ⟨k, ex, q1⟩ => by
    subst ex
    refine ⟨k, Da.blI ru, ?_⟩
    cases k with
    | false => rw [if_neg Bool.false_ne_true] at q1 ⊢; exact q1 π1 G1 σ H1 R hk1 (sk.xt e1) (wv.xt e1)
    | true => rw [if_pos rfl] at q1 ⊢; exact wv _ (.d (.bool true)) π1 G1 H1 m1 e1 hk1 (Da.bl true) q1⟩
theorem we_not (h : We X K a ρ m fun x m1 => ∃ k : Bool, x = .d (.bool k) ∧ Q (.d (.bool (!k))) m1) : We X K (.UnaryOp .Not a pos) ρ m Q := fun π G σ H R hk sk wv =>
  ⟨_, fun j => pe_not (teOf X a j), h π G σ H _ hk sk fun u x π1 G1 H1 m1 e1 hk1 ru ⟨k, ex, q1⟩ => by
    subst ex
    exact ⟨k, Da.blI ru, wv _ (.d (.bool (!k))) π1 G1 H1 m1 e1 hk1 (Da.bl _) q1⟩⟩
theorem we_neg (h : We X K a ρ m fun x m1 => ∃ i : Int, x = .d (.int i) ∧ Q (.d (.int (-i))) m1) (hu : ∀ j, UnR (X j) (unaryOp .USub) (rU fun i => .int (-i))) : We X K (.UnaryOp .USub a pos) ρ m Q := fun π G σ H R hk sk wv =>
  ⟨_, fun j => pe_un (hu j) (teOf X a j), h π G σ H _ hk sk fun u x π1 G1 H1 m1 e1 hk1 ru ⟨k, ex, q1⟩ => by
    subst ex
    exact ⟨k, Da.intI ru, wv _ (.d (.int (-k))) π1 G1 H1 m1 e1 hk1 (Da.int _) q1⟩⟩
/-! tests -/
theorem wt_val {Q : Bool → Mm → Prop} (h : We X K e ρ m fun x m1 => ∃ k : Bool, x = .d (.bool k) ∧ Q k m1) (he : ∀ (env : Env) whole, isTrue e env whole = (do let v ← whole; standAt e.pos; holding [v] (truthy v)) := by intro _ _; rfl) : Wt X K e ρ m Q := fun π G σ H R hk sk wb =>
  ⟨_, fun j => pt_val (teOf X e j) (he _), h π G σ H _ hk sk fun u x π1 G1 H1 m1 e1 hk1 ru ⟨k, ex, q1⟩ => by
    subst ex
    exact ⟨k, Da.blI ru, wb k π1 G1 H1 m1 e1 hk1 q1⟩⟩
theorem wt_cmp {op : CmpOp} {Q : Bool → Mm → Prop} (h : We X K a ρ m fun x m1 => We X K b ρ m1 fun y m2 => OpW X K (compareOp op) x y m2 fun z m3 => ∃ k : Bool, z = .d (.bool k) ∧ Q k m3) (hm : behindInMarks op b = false := by first | exact nomark _ | rfl) : Wt X K (.Compare a [op] [b] pos) ρ m Q := fun π G σ H R hk sk wb =>
  ⟨_, fun j => pt_cmpR (opOf X (compareOp op) j) (teOf X a j) (teOf X b j) hm, h π G σ H _ hk sk fun u x π1 G1 H1 m1 e1 hk1 ru q1 => q1 π1 G1 σ H1 _ hk1 (sk.xt e1) fun v y π2 G2 H2 m2 e2 hk2 rv q2 =>
    q2 π2 G2 H2 _ u v hk2 (ru.xt e2) rv fun z zx π3 G3 H3 m3 e3 hk3 rz ⟨kk, ez, q3⟩ => by
      subst ez
      exact ⟨kk, Da.blI rz, wb kk π3 G3 H3 m3 ((e1.trans e2).trans e3) hk3 q3⟩⟩
theorem wt_not {Q : Bool → Mm → Prop} (h : Wt X K a ρ m fun k m1 => Q (!k) m1) : Wt X K (.UnaryOp .Not a pos) ρ m Q := fun π G σ H R hk sk wb =>
  ⟨_, fun j => pt_not (ttOf X a j), h π G σ H _ hk sk fun k π1 G1 H1 m1 e1 hk1 q1 => wb (!k) π1 G1 H1 m1 e1 hk1 q1⟩
theorem wt_w {Q : Bool → Mm → Prop} (h : Ww X K a ρ m Q) : Wt X K a ρ m Q := fun π G σ H R hk sk wb => ⟨_, fun j => (twOf X a j).pt, h π G σ H R hk sk wb⟩
theorem ww_and1 {Q : Bool → Mm → Prop} (h : Wt X K a ρ m Q) : Ww X K (.BoolOp .And [a] pos) ρ m Q := fun π G σ H R hk sk wb => ⟨_, fun j => pw_and1 (ttOf X a j), h π G σ H R hk sk wb⟩
theorem ww_or1 {Q : Bool → Mm → Prop} (h : Wt X K a ρ m Q) : Ww X K (.BoolOp .Or [a] pos) ρ m Q := fun π G σ H R hk sk wb => ⟨_, fun j => pw_or1 (ttOf X a j), h π G σ H R hk sk wb⟩
theorem ww_and {rest : List Expr} {Q : Bool → Mm → Prop} (h : Wt X K a ρ m fun k m1 => if k = true then Ww X K (.BoolOp .And (b :: rest) pos) ρ m1 Q else Q false m1) : Ww X K (.BoolOp .And (a :: b :: rest) pos) ρ m Q := fun π G σ H R hk sk wb =>
  ⟨_, fun j => pw_and (ttOf X a j) (twOf X _ j), h π G σ H _ hk sk fun k π1 G1 H1 m1 e1 hk1 q1 => by
    cases k with
    | true => rw [if_pos rfl] at q1 ⊢; exact q1 π1 G1 σ H1 R hk1 (sk.xt e1) fun b π' G' H' m' e' => wb b π' G' H' m' (e1.trans e')
    | false => rw [if_neg Bool.false_ne_true] at q1 ⊢; exact wb false π1 G1 H1 m1 e1 hk1 q1⟩
theorem ww_or {rest : List Expr} {Q : Bool → Mm → Prop} (h : Wt X K a ρ m fun k m1 => if k = true then Q true m1 else Ww X K (.BoolOp .Or (b :: rest) pos) ρ m1 Q) : Ww X K (.BoolOp .Or (a :: b :: rest) pos) ρ m Q := fun π G σ H R hk sk wb =>
  ⟨_, fun j => pw_or (ttOf X a j) (twOf X _ j), h π G σ H _ hk sk fun k π1 G1 H1 m1 e1 hk1 q1 => by
    cases k with
    | false => rw [if_neg Bool.false_ne_true] at q1 ⊢; exact q1 π1 G1 σ H1 R hk1 (sk.xt e1) fun b π' G' H' m' e' => wb b π' G' H' m' (e1.trans e')
    | true => rw [if_pos rfl] at q1 ⊢; exact wb true π1 G1 H1 m1 e1 hk1 q1⟩
theorem we_ifExp (h : Wt X K c ρ m fun k m1 => if k = true then We X K a ρ m1 Q else We X K b ρ m1 Q) : We X K (.IfExp c a b pos) ρ m Q := fun π G σ H R hk sk wv =>
  ⟨_, fun j => pe_ifExp (ttOf X c j) (teOf X a j) (teOf X b j), h π G σ H _ hk sk fun k π1 G1 H1 m1 e1 hk1 q1 => by
    cases k with
    | true => rw [if_pos rfl] at q1 ⊢; exact q1 π1 G1 σ H1 R hk1 (sk.xt e1) (wv.xt e1)
    | false => rw [if_neg Bool.false_ne_true] at q1 ⊢; exact q1 π1 G1 σ H1 R hk1 (sk.xt e1) (wv.xt e1)⟩
/-! arguments, displays -/
theorem wr_nil {Q : List MV → Mm → Prop} (q : Q [] m) : Wr X K [] ρ m Q := fun π G σ H R hk sk wl => ⟨_, fun _ => pa_nil, wl [] [] π G H m Xt.refl hk .nil q⟩
theorem wr_cons {es : List Expr} {Q : List MV → Mm → Prop} (h : We X K e ρ m fun x m1 => Wr X K es ρ m1 fun xs m2 => Q (x :: xs) m2) (hs : ∀ env : Env, starEach (e :: es) env = (false, eval e env) :: starEach es env := by intro _; rfl) : Wr X K (e :: es) ρ m Q := fun π G σ H R hk sk wl =>
  ⟨_, fun j => pa_cons (teOf X e j) (taOf X es j) (hs _), h π G σ H _ hk sk fun u x π1 G1 H1 m1 e1 hk1 ru q1 => q1 π1 G1 σ H1 _ hk1 (sk.xt e1) fun vs xs π2 G2 H2 m2 e2 hk2 rvs q2 =>
    wl (u :: vs) (x :: xs) π2 G2 H2 m2 (e1.trans e2) hk2 (.cons (ru.xt e2) rvs) q2⟩
theorem we_tup {es : List Expr} {n : Nat} (h : Wr X K es ρ m fun xs m1 => ∃ ds : List PyData, xs = ds.map .d ∧ ds.length ≤ 1000 ∧ Q (.d (.tuple ds)) m1) : We X K (.Tuple es n pos) ρ m Q := fun π G σ H R hk sk wv =>
  ⟨_, fun j => pe_tup (taOf X es j), h π G σ H _ hk sk fun vs xs π1 G1 H1 m1 e1 hk1 rvs ⟨ds, ex, hl, q⟩ => by
    subst ex
    have rd := rvs_data rvs
    exact ⟨by rw [rd.len]; exact Nat.le_trans hl (by decide), fun p hp => newt hk1 hp rd q (wv.xt e1)⟩⟩
theorem we_lst {es : List Expr} (h : Wr X K es ρ m fun xs m1 => xs.length ≤ 1000 ∧ NewL xs m1 Q) : We X K (.List es pos) ρ m Q := fun π G σ H R hk sk wv =>
  ⟨_, fun j => pe_lst (taOf X es j), h π G σ H _ hk sk fun vs xs π1 G1 H1 m1 e1 hk1 rvs ⟨hl, q⟩ =>
    ⟨by rw [Paired.length rvs]; exact Nat.le_trans hl (by decide), fun p hp => newl hk1 hp rvs q (wv.xt e1)⟩⟩
/-! indexes -/
theorem we_ix (h : We X K a ρ m fun x m1 => We X K b ρ m1 fun y m2 => IxW X K x y m2 Q) (hs : PlainIx b := by intro _ _; rfl) : We X K (.Subscript a b pos) ρ m Q := fun π G σ H R hk sk wv =>
  ⟨_, fun j => pe_ix (ixOf X j) (teOf X a j) (teOf X b j) hs, h π G σ H _ hk sk fun u x π1 G1 H1 m1 e1 hk1 ru q1 => q1 π1 G1 σ H1 _ hk1 (sk.xt e1) fun v y π2 G2 H2 m2 e2 hk2 rv q2 =>
    q2 π2 G2 H2 R u v hk2 (ru.xt e2) rv (wv.xt (e1.trans e2))⟩
/-! calls of built-ins -/
theorem we_callB (F : Fam X P w K mg base N sc fv k) {nm : Str} {id : String} {es : List Expr} (h : Wr X K (e :: es) ρ m fun xs m1 => CaW X K (.builtin id) xs m1 Q) (hm : mg nm = none) (hv : bootBuiltins nm = some (.builtin id)) (hg : sc.names.lookup nm = some .globalImplicit := by rfl)
    (hn : nm ≠ "__name__" := by decide) (hdb : (nm == ("__debug__" : Str)) = false := by decide) (he : ∀ env : Env, starEach (e :: es) env = (false, eval e env) :: starEach es env := by intro _; rfl) (hpl : ∀ env : Env, (backTo pos (starEach es env)).any (·.1) = false := by intro _; rfl) :
    We X K (.Call (.Name nm p) (e :: es) [] pos) ρ m Q := fun π G σ H R hk sk wv =>
  ⟨_, fun j => pe_callB (caOf X (.builtin id) j) (F.gl hg j) (by rw [F.cM]; exact hm) hv (taOf X _ j) hn hdb (he _) (hpl _), h π G σ H _ hk sk fun vs xs π1 G1 H1 m1 e1 hk1 rvs q => q π1 G1 H1 R vs hk1 rvs (wv.xt e1)⟩
theorem we_callT (F : Fam X P w K mg base N sc fv k) {nm : Str} {id : String} {es : List Expr} (h : Wr X K (e :: es) ρ m fun xs m1 => CaW X K (.type id) xs m1 Q) (hm : mg nm = none) (hv : bootBuiltins nm = some (.type id)) (hg : sc.names.lookup nm = some .globalImplicit := by rfl)
    (hn : nm ≠ "__name__" := by decide) (hdb : (nm == ("__debug__" : Str)) = false := by decide) (he : ∀ env : Env, starEach (e :: es) env = (false, eval e env) :: starEach es env := by intro _; rfl) (hpl : ∀ env : Env, (backTo pos (starEach es env)).any (·.1) = false := by intro _; rfl) :
    We X K (.Call (.Name nm p) (e :: es) [] pos) ρ m Q := fun π G σ H R hk sk wv =>
  ⟨_, fun j => pe_callTy (caOf X (.type id) j) (F.gl hg j) (by rw [F.cM]; exact hm) hv (taOf X _ j) hn hdb (he _) (hpl _), h π G σ H _ hk sk fun vs xs π1 G1 H1 m1 e1 hk1 rvs q => q π1 G1 H1 R vs hk1 rvs (wv.xt e1)⟩
/-! own defs -/
def spM (K : PySem.W.Frag) (S : List MV → Mm → QV → Prop) : Sp := fun vs H Q _ => ∃ π G m xs Qm, Hk K π G H m ∧ Rvs K G π vs xs ∧ S xs m Qm ∧ Wv K π G H Qm Q
def Cal (P : Program) (w : World) (K : PySem.W.Frag) (mg : Str → Option Value) (base : Heap) (k : Nat) (nm : Str) (n : Nat) (S : List MV → Mm → QV → Prop) : Prop :=
  ∃ f fd ps, FnOk P w K mg base CX0 k f fd ps (spM K S) ∧ mg nm = some (.ref f) ∧ PySem.W.keepIn K (.ref f) = true ∧ Binds K fd ps [] ∧ ps.length = n
theorem we_call (F : Fam X P w K mg base N sc fv k) {k' n : Nat} {nm : Str} {S : List MV → Mm → QV → Prop} {es : List Expr} (C : Cal P w K mg base k' nm n S) (hk' : k' ≤ k) (h : Wr X K (e :: es) ρ m fun xs m1 => S xs m1 Q) (hg : sc.names.lookup nm = some .globalImplicit := by rfl)
    (hdb : (nm == ("__debug__" : Str)) = false := by decide) (he : ∀ env : Env, starEach (e :: es) env = (false, eval e env) :: starEach es env := by intro _; rfl) (hpl : ∀ env : Env, (backTo pos (starEach es env)).any (·.1) = false := by intro _; rfl) :
    We X K (.Call (.Name nm p) (e :: es) [] pos) ρ m Q := fun π G σ H R hk sk wv => by
  obtain ⟨f, fd, ps, ok, hm, kp, bn, _⟩ := C
  refine ⟨tCall (spM K S) [] E0 (TaOf X (e :: es)), fun j => ?_, h π G σ H _ hk sk fun vs xs π1 G1 H1 m1 e1 hk1 rvs q => ?_⟩
  · have ok' : FnOk (X j).prog (X j).w (X j).K (X j).mg (X j).base CX0 k' f fd ps (spM K S) := by rw [F.cP, F.cW, F.cK, F.cM, F.cB]; exact ok
    exact pe_call ok' ((F.room j).mono hk') (F.gl hg j) (by rw [F.cM]; exact hm) (by rw [F.cK]; exact kp) (by rw [F.cK]; exact bn) .nil pass0 (taOf X _ j) hdb (he _) (hpl _)
  · rw [List.append_nil]
    exact ⟨π1, G1, m1, xs, Q, hk1, rvs, q, wv.xt e1⟩
/-! methods, instances -/
def Cam (P : Program) (w : World) (K : PySem.W.Frag) (mg : Str → Option Value) (base : Heap) (k : Nat) (C : Addr) (nm : Str) (S : List MV → Mm → QV → Prop) : Prop :=
  ∃ f fd ps, FnOk P w K mg base CX0 k f fd ps (spM K S) ∧ Cls K C ∧ Meth K C nm f ∧ Binds K fd ps []
theorem fields_lookup {G : Hp} {π : List Addr} {nm : Str} : ∀ {fs : List (Str × V)} {gs : List (Str × MV)}, Paired (Rf K G π) fs gs → (gs.lookup nm = none → fs.lookup nm = none) ∧ ∀ x, gs.lookup nm = some x → ∃ v, fs.lookup nm = some v ∧ Rv K G π v x
  | _, _, .nil => ⟨fun _ => rfl, fun x h => by simp at h⟩
  | _, _, .cons (a := p) (b := q) r t => by
    obtain ⟨i1, i2⟩ := fields_lookup (nm := nm) t
    obtain ⟨p1, p2⟩ := p
    obtain ⟨q1, q2⟩ := q
    obtain ⟨e, rv⟩ := r
    have e' : p1 = q1 := e
    subst e'
    simp only [List.lookup_cons]
    cases (nm == p1) with
    | true => exact ⟨fun h => by simp at h, fun x h => by simp at h; subst h; exact ⟨p2, rfl, rv⟩⟩
    | false => exact ⟨i1, i2⟩
theorem we_meth (F : Fam X P w K mg base N sc fv k) {k' : Nat} {C : Addr} {nm : Str} {S : List MV → Mm → QV → Prop} {es : List Expr} {apos : Pos} {o : Expr} (M : Cam P w K mg base k' C nm S) (hk' : k' ≤ k)
    (h : We X K o ρ m fun x m1 => ∃ i fs, x = .r i ∧ m1[i]? = some (.ins C fs) ∧ fs.lookup nm = none ∧ Wr X K (e :: es) ρ m1 fun xs m2 => S (.r i :: xs) m2 Q)
    (he : ∀ env : Env, starEach (e :: es) env = (false, eval e env) :: starEach es env := by intro _; rfl) (hpl : ∀ env : Env, (backTo pos (starEach es env)).any (·.1) = false := by intro _; rfl)
    {pl : Env → Sem Bool} (ht : ∀ env : Env, eval (.Call (.Attribute o nm apos) (e :: es) [] pos) env = (do
      let ov ← eval o env
      standAt apos.atName
      let (f, first) ← holding [ov] (getMethod ov nm (pl env))
      callWith pos f first (backTo pos (starEach (e :: es) env)) (backToKw pos (keywordEach [] env))) := by intro _; rfl) :
    We X K (.Call (.Attribute o nm apos) (e :: es) [] pos) ρ m Q := fun π G σ H R hk sk wv => by
  obtain ⟨f, fd, ps, ok, cl, hm, bn⟩ := M
  refine ⟨tMeth C nm (spM K S) [] E0 (TeOf X o) (TaOf X (e :: es)), fun j => ?_, h π G σ H _ hk sk fun u x π1 G1 H1 m1 e1 hk1 ru ⟨i, fs, ex, hi, hl, q1⟩ => ?_⟩
  · have ok' : FnOk (X j).prog (X j).w (X j).K (X j).mg (X j).base CX0 k' f fd ps (spM K S) := by rw [F.cP, F.cW, F.cK, F.cM, F.cB]; exact ok
    exact pe_meth (teOf X o j) (by rw [F.cK]; exact cl) (by rw [F.cK]; exact hm) ok' ((F.room j).mono hk') (by rw [F.cK]; exact bn) .nil pass0 (taOf X _ j) (he _) (hpl _) (ht _)
  · subst ex
    obtain ⟨a, ha, rfl⟩ := ru
    obtain ⟨a', u', h1, h2, dx, fs', eu, rf⟩ := hk1.obj i _ hi
    rw [ha] at h1; cases h1
    subst eu
    refine ⟨a, dx, fs', rfl, h2, (fields_lookup rf).1 hl, q1 π1 G1 σ H1 _ hk1 (sk.xt e1) fun vs xs π2 G2 H2 m2 e2 hk2 rvs q2 => ?_⟩
    rw [List.append_nil]
    exact ⟨π2, G2, m2, .r i :: xs, Q, hk2, .cons ⟨a, e2.get ha, rfl⟩ rvs, q2, wv.xt (e1.trans e2)⟩
theorem we_meth0 (F : Fam X P w K mg base N sc fv k) {k' : Nat} {C : Addr} {nm : Str} {S : List MV → Mm → QV → Prop} {apos : Pos} {o : Expr} (M : Cam P w K mg base k' C nm S) (hk' : k' ≤ k)
    (h : We X K o ρ m fun x m1 => ∃ i fs, x = .r i ∧ m1[i]? = some (.ins C fs) ∧ fs.lookup nm = none ∧ S [.r i] m1 Q)
    {pl : Env → Sem Bool} (ht : ∀ env : Env, eval (.Call (.Attribute o nm apos) [] [] pos) env = (do
      let ov ← eval o env
      standAt apos.atName
      let (f, first) ← holding [ov] (getMethod ov nm (pl env))
      callWith pos f first (backTo pos (starEach [] env)) (backToKw pos (keywordEach [] env))) := by intro _; rfl) :
    We X K (.Call (.Attribute o nm apos) [] [] pos) ρ m Q := fun π G σ H R hk sk wv => by
  obtain ⟨f, fd, ps, ok, cl, hm, bn⟩ := M
  refine ⟨tMeth C nm (spM K S) [] E0 (TeOf X o) tNil, fun j => ?_, h π G σ H _ hk sk fun u x π1 G1 H1 m1 e1 hk1 ru ⟨i, fs, ex, hi, hl, q1⟩ => ?_⟩
  · have ok' : FnOk (X j).prog (X j).w (X j).K (X j).mg (X j).base CX0 k' f fd ps (spM K S) := by rw [F.cP, F.cW, F.cK, F.cM, F.cB]; exact ok
    exact pe_meth0 (teOf X o j) (by rw [F.cK]; exact cl) (by rw [F.cK]; exact hm) ok' ((F.room j).mono hk') (by rw [F.cK]; exact bn) .nil pass0 (ht _)
  · subst ex
    obtain ⟨a, ha, rfl⟩ := ru
    obtain ⟨a', u', h1, h2, dx, fs', eu, rf⟩ := hk1.obj i _ hi
    rw [ha] at h1; cases h1
    subst eu
    exact ⟨a, dx, fs', rfl, h2, (fields_lookup rf).1 hl, ⟨π1, G1, m1, [.r i], Q, hk1, .cons ⟨a, ha, rfl⟩ .nil, q1, wv.xt e1⟩⟩
def Cak (P : Program) (w : World) (K : PySem.W.Frag) (mg : Str → Option Value) (base : Heap) (k : Nat) (C : Addr) (nm : Str) (S : List MV → Mm → QV → Prop) : Prop :=
  ∃ f fd ps, FnOk P w K mg base CX0 k f fd ps (spM K S) ∧ Mk K C f ∧ mg nm = some (.ref C) ∧ Binds K fd ps []
theorem we_make (F : Fam X P w K mg base N sc fv k) {k' : Nat} {C : Addr} {nm : Str} {S : List MV → Mm → QV → Prop} {es : List Expr} (M : Cak P w K mg base k' C nm S) (hk' : k' + 1 ≤ k)
    (h : Wr X K (e :: es) ρ m fun xs m1 => S (.r m1.length :: xs) (m1 ++ [.ins C []]) fun y m2 => y = .d .none ∧ Q (.r m1.length) m2) (hg : sc.names.lookup nm = some .globalImplicit := by rfl)
    (hdb : (nm == ("__debug__" : Str)) = false := by decide) (he : ∀ env : Env, starEach (e :: es) env = (false, eval e env) :: starEach es env := by intro _; rfl) (hpl : ∀ env : Env, (backTo pos (starEach es env)).any (·.1) = false := by intro _; rfl) :
    We X K (.Call (.Name nm p) (e :: es) [] pos) ρ m Q := fun π G σ H R hk sk wv => by
  obtain ⟨f, fd, ps, ok, mk, hm, bn⟩ := M
  refine ⟨tMake C (spM K S) [] E0 (TaOf X (e :: es)), fun j => ?_, h π G σ H _ hk sk fun vs xs π1 G1 H1 m1 e1 hk1 rvs q x dx hx hdx ne => ?_⟩
  · have ok' : FnOk (X j).prog (X j).w (X j).K (X j).mg (X j).base CX0 k' f fd ps (spM K S) := by rw [F.cP, F.cW, F.cK, F.cM, F.cB]; exact ok
    exact pe_make (by rw [F.cK]; exact mk) ok' ((F.room j).mono hk') (F.gl hg j) (by rw [F.cM]; exact hm) (by rw [F.cK]; exact bn) .nil pass0 (taOf X _ j) hdb (he _) (hpl _)
  · rw [List.append_nil]
    have hx' : upd H1 dx (.own x) x = none := by rw [upd_ne (Ne.symm ne)]; exact hx
    have hk2 : Hk K π1 G1 (upd H1 dx (.own x)) m1 := hk1.grow (same_new hdx)
    have hk3 : Hk K (π1 ++ [x]) G1 (upd (upd H1 dx (.own x)) x (.ins C dx [])) (m1 ++ [.ins C []]) := hk2.alloc hx' (show Rob K G1 (π1 ++ [x]) (.ins C dx []) (.ins C []) from ⟨dx, [], rfl, .nil⟩)
    have ex : Xt π1 G1 H1 π1 G1 (upd H1 dx (.own x)) := ⟨Same.refl _, ⟨[], by simp, by simp⟩, fun a u h _ => by rw [upd_ne (ne_of_none h hdx)]; exact h, fun a h => by
      by_cases q : a = dx
      · subst q; rw [upd_same]; simp
      · rw [upd_ne q]; exact h, fun _ _ _ _ _ h => h⟩
    have e3 : Xt π1 G1 H1 (π1 ++ [x]) G1 (upd (upd H1 dx (.own x)) x (.ins C dx [])) := ex.trans (Xt.alloc hx')
    have rx : Rv K G1 (π1 ++ [x]) (.ref x) (.r m1.length) := by
      refine ⟨x, ?_, rfl⟩
      rw [List.getElem?_append_right (by rw [hk1.len]; exact Nat.le_refl _)]
      simp [hk1.len]
    refine ⟨π1 ++ [x], G1, m1 ++ [.ins C []], .r m1.length :: xs, _, hk3, .cons rx (Rvs.xt rvs e3), q, fun v y π4 G4 H4 m4 e4 hk4 ry ⟨ey, qy⟩ => ?_⟩
    subst ey
    exact ⟨Da.nonI ry, wv _ (.r m1.length) π4 G4 H4 m4 ((e1.trans e3).trans e4) hk4 (rx.xt e4) qy⟩
theorem we_fld (F : Fam X P w K mg base N sc fv k) {f : Str} (h : We X K a ρ m fun x m1 => ∃ i C fs y, x = .r i ∧ m1[i]? = some (.ins C fs) ∧ Cls K C ∧ NoAttr K C f ∧ fs.lookup f = some y ∧ Q y m1) (hb : ∀ env : Env, attributeBase a f env (eval a env) = eval a env := by intro _; rfl) :
    We X K (.Attribute a f pos) ρ m Q := fun π G σ H R hk sk wv =>
  ⟨tFld K (TeOf X a) f, fun j => F.cK j ▸ pe_fld (teOf X a j) (hb _), h π G σ H _ hk sk fun u x π1 G1 H1 m1 e1 hk1 ru ⟨i, C, fs, y, ex, hi, cl, na, hl, q1⟩ => by
    subst ex
    obtain ⟨c, hc, rfl⟩ := ru
    obtain ⟨a', u', h1, h2, dx, fs', eu, rf⟩ := hk1.obj i _ hi
    rw [hc] at h1; cases h1
    subst eu
    obtain ⟨v, hv, rv⟩ := (fields_lookup rf).2 y hl
    exact ⟨c, C, dx, fs', v, rfl, h2, cl, na, hv, wv v y π1 G1 H1 m1 e1 hk1 rv q1⟩⟩
end
end Wn
set_option Elab.async false
set_option linter.all false
set_option maxRecDepth 100000
set_option maxHeartbeats 2000000
set_option autoImplicit false
namespace PySem
open Sem (wp)
theorem meets_enumerate_newW {v : Value} {o : Obj} {H : Heap → Prop} (B : Begins v o H) :
    Meets (Builtin.«enumerate.__new__» ⟨[.type "enumerate", v], []⟩) (fun _ R s => H s.heap ∧
      R (.ok (.ret (.ref (s.heap.push o).objs.size))) { s with heap := (s.heap.push o).push { cls := .type "enumerate", data := .fields #[.none, .bool false, .ref s.heap.objs.size, rawInt 0, .none, .none] } }) :=
  .of_wp fun prog w A R s h => by
    obtain ⟨hp, g, d, tk, os⟩ := s; obtain ⟨h1, h⟩ := h
    have hsub := sub_enumerate
    have q1 : ∀ {A' : Around} {E : Value → Shared → Prop} {Q : Value → Shared → Prop}, Q (.ref hp.objs.size) ⟨hp.push o, g, d, tk, os⟩ → wpAny (model prog w) A' (pyIter v) Q E ⟨hp, g, d, tk, os⟩ :=
      fun q => B.iter prog w _ _ ⟨hp, g, d, tk, os⟩ _ h1 q
    wp_walk using q1
    refine wpAny_stack_any fun st => wpAny_pure ?_
    split
    · rename_i c _ _ _ _ _
      cases (c == Value.type "enumerate")
      · wp_walk using q1
        exact ⟨_, rfl, h⟩
      · wp_walk using q1
        exact ⟨_, rfl, h⟩
    · wp_walk using q1
      exact ⟨_, rfl, h⟩
theorem enum_beginsW {prog : Program} {w : World} {A : Around} {E : Value → Shared → Prop} {s : Shared} {v : Value} {o : Obj} {H : Heap → Prop} {Q : Value → Shared → Prop} (B : Begins v o H) (h1 : H s.heap)
    (h : ∀ h', IsEnum h' (s.heap.objs.size + 1) s.heap.objs.size 0 .none → h'.get? s.heap.objs.size = some o → h'.objs.size = s.heap.objs.size + 2 →
      (∀ b o, s.heap.get? b = some o → h'.get? b = some o) → Q (.ref (s.heap.objs.size + 1)) { s with heap := h' }) :
    wpAny (model prog w) A (call (.type "enumerate") [v]) Q E s := by
  refine callType_new F.called_enumerate (by decide) (F.typeCall_enumerate_1 _) (F.newCall_enumerate_1 _) (fun obj => F.args_object_init_2 obj _) F.entry_enumerate_new
    (meets_enumerate_newW B) ⟨h1, ?_⟩
  have hz : (s.heap.push o).objs.size = s.heap.objs.size + 1 := Heap.size_push ..
  show _ ∧ _
  rw [hz]
  have he : IsEnum ((s.heap.push o).push { cls := .type "enumerate", data := .fields #[.none, .bool false, .ref s.heap.objs.size, rawInt 0, .none, .none] }) (s.heap.objs.size + 1) s.heap.objs.size 0 .none := by
    have := Heap.get?_push_size (s.heap.push o) (o := { cls := .type "enumerate", data := .fields #[.none, .bool false, .ref s.heap.objs.size, rawInt 0, .none, .none] }) rfl
    rw [hz] at this; exact this
  refine ⟨⟨_, he, rfl⟩, h _ he (Heap.get?_push_of_some _ (Heap.get?_push_size _ B.free)) (by rw [Heap.size_push, hz]) fun b o x => Heap.get?_push_of_some _ (Heap.get?_push_of_some _ x)⟩
end PySem
namespace Wn
open PySem L2
/-! ### a list (true) or a tuple (false) -/
def SqA (K : PySem.W.Frag) : Bool → Hp → Addr → List V → Prop
  | true => SqL K
  | false => SqT K
def IsIt : Bool → Heap → Addr → Addr → Nat → Prop
  | true => fun h it a i => h.IsListIter it a i
  | false => fun h it a i => h.IsTupleIter it a i
def IsSrc : Bool → Heap → Addr → Array Value → Prop
  | true => fun h a its => h.IsList a its
  | false => fun h a its => h.IsTuple a its
def itObj : Bool → Addr → Obj
  | true => fun a => { cls := .type "list_iterator", data := .fields #[.ref a, .int 0 0] }
  | false => fun a => { cls := .type "tuple_iterator", data := .fields #[.ref a, .int 0 0] }
theorem drawsA {prog : Program} {w : World} {A : Around} (k : Bool) (hh : A.handled = none) (it a : Addr) (hne : a ≠ it) (items : Array Value) :
    Draws prog w A it [it, a] items.size (fun i v => items[i]? = some v) (fun i h => IsIt k h it a i ∧ IsSrc k h a items) := by
  cases k
  · exact Draws.tuple hh it a hne items
  · exact Draws.list hh it a hne items
theorem beginsA (k : Bool) (a : Addr) (items : Array Value) : Begins (.ref a) (itObj k a) (fun h => IsSrc k h a items) := by
  cases k
  · exact begins_tuple a items
  · exact begins_list a items
theorem isIt0 {k : Bool} {h : Heap} {it a : Addr} (e : h.get? it = some (itObj k a)) : IsIt k h it a 0 := by
  cases k <;> exact ⟨_, e, rfl, rfl⟩
theorem IsIt.at {k : Bool} {h h' : Heap} {it a : Addr} {i : Nat} (e : IsIt k h it a i) (q : ∀ o, h.get? it = some o → h'.get? it = some o) : IsIt k h' it a i := by
  cases k
  · exact Heap.IsTupleIter.at e q
  · exact Heap.IsListIter.at e q
theorem IsIt.obj {k : Bool} {h : Heap} {it a : Addr} {i : Nat} (e : IsIt k h it a i) : ∃ o, h.get? it = some o ∧ ∀ v, o.data ≠ .cell v := by
  cases k
  · obtain ⟨o, e1, _, d1⟩ := e; exact ⟨o, e1, fun v q => by rw [d1] at q; cases q⟩
  · obtain ⟨o, e1, _, d1⟩ := e; exact ⟨o, e1, fun v q => by rw [d1] at q; cases q⟩
section
variable {X : Cx} {pins : List (Addr × Obj)} {σ : St} {H : Hp} {s : Shared}
theorem srcA (I : Inv X pins σ H s) {k : Bool} {a : Addr} {xs : List V} (h : SqA X.K k H a xs) : ∃ its : List Value, Vals xs its ∧ IsSrc k s.heap a its.toArray := by
  cases k
  · obtain ⟨its, rv, p, _⟩ := I.tuple h; exact ⟨its, rv, p⟩
  · obtain ⟨its, rv, p, _⟩ := I.list h; exact ⟨its, rv, p.isList⟩
theorem sqA_inj (I : Inv X pins σ H s) {k : Bool} {a : Addr} {xs ys : List V} (h : SqA X.K k H a xs) (h' : SqA X.K k H a ys) : xs = ys := by
  cases k
  · exact I.tuple_inj h h'
  · exact I.list_inj h h'
theorem IsSrc.lt {k : Bool} {h : Heap} {a : Addr} {its : Array Value} (e : IsSrc k h a its) : a < h.objs.size := by
  cases k
  · obtain ⟨o, q, _⟩ := e; exact Heap.lt_size q
  · obtain ⟨o, q, _⟩ := e; exact Heap.lt_size q
end
/-! ### zip of two lists or tuples -/
def ItZ (K : PySem.W.Frag) (k1 k2 : Bool) (a b : Addr) : It :=
  ⟨fun i H => ∃ (xs ys : List V) (x y : V), SqA K k1 H a xs ∧ SqA K k2 H b ys ∧ xs[i]? = some x ∧ ys[i]? = some y,
    fun i H v H' => ∃ T x y, v = .ref T ∧ H T = none ∧ H' = upd H T (.tup [x, y]) ∧ (∀ xs, SqA K k1 H a xs → xs[i]? = some x) ∧ ∀ ys, SqA K k2 H b ys → ys[i]? = some y,
    fun i H => ∃ xs ys : List V, SqA K k1 H a xs ∧ SqA K k2 H b ys ∧ i ≤ xs.length ∧ i ≤ ys.length ∧ (i = xs.length ∨ i = ys.length)⟩
theorem turn_zipW {P : Program} {w : World} {K : PySem.W.Frag} {elts : List Expr} {kk : Nat} {tpos : Pos} {k1 k2 : Bool} {a b z TI TO i1 i2 : Addr} (D : ZipSep2 z TI TO i1 i2 [i1, a] [i2, b]) (na1 : a ≠ i1) (nb2 : b ≠ i2) :
    Turn P w K (.Tuple elts kk tpos) (ItZ K k1 k2 a b) [z, TI, TO, i1, i2] z (fun i h => IsZip h z TI TO .none ∧ IsTupOf2 h TI (.ref i1) (.ref i2) ∧ (∃ x y, IsTupOf2 h TO x y) ∧ IsIt k1 h i1 a i ∧ IsIt k2 h i2 b i) where
  mem := by simp
  obj := fun i h st c hc => by
    obtain ⟨hz, hTI, ⟨x, y, hTO⟩, h1, h2⟩ := st
    have e' : c = z ∨ c = TI ∨ c = TO ∨ c = i1 ∨ c = i2 := by simpa using hc
    rcases e' with q | q | q | q | q
    · rw [q]; exact ⟨_, hz, fun v q => nomatch q⟩
    · rw [q]; exact ⟨_, hTI, fun v q => nomatch q⟩
    · rw [q]; exact ⟨_, hTO, fun v q => nomatch q⟩
    · rw [q]; exact h1.obj
    · rw [q]; exact h2.obj
  keep := fun i h h' st k => by
    obtain ⟨hz, hTI, ⟨x, y, hTO⟩, h1, h2⟩ := st
    exact ⟨k z (by simp) _ hz, k TI (by simp) _ hTI, ⟨x, y, k TO (by simp) _ hTO⟩, h1.at fun o q => k i1 (by simp) o q, h2.at fun o q => k i2 (by simp) o q⟩
  item := by
    intro X hP hw hK hc i pins s σ H E I hf st hg
    subst hP hw hK
    obtain ⟨hz, hTI, ⟨x0, y0, hTO⟩, h1, h2⟩ := st
    obtain ⟨xs, ys, x, y, hqx, hqy, hx, hy⟩ := hg
    obtain ⟨its, rv, p⟩ := srcA I hqx
    obtain ⟨its2, rv2, p2⟩ := srcA I hqy
    obtain ⟨u, hu, ru⟩ := rv.get hx
    obtain ⟨u2, hu2, ru2⟩ := rv2.get hy
    have hh : X.A.in1.handled = none := I.ok.hd hc
    have hzl : z < s.heap.objs.size := Heap.lt_size hz
    refine wpAny_pyNext_zipD2_item D (drawsA k1 hh i1 a na1 its.toArray) (drawsA k2 hh i2 b nb2 its2.toArray) hz hTI hTO ⟨h1, p⟩ ⟨h2, p2⟩ (by
      have := (List.getElem?_eq_some_iff.mp hu).1
      simpa using this) (by
      have := (List.getElem?_eq_some_iff.mp hu2).1
      simpa using this) fun w1 w2 h' tk e1 e2 z' TO' s1 s2 hT hsz hk => ?_
    have e1' : w1 = u := by
      have q : its[i]? = some w1 := by simpa using e1
      rw [hu] at q; exact (Option.some.inj q).symm
    have e2' : w2 = u2 := by
      have q : its2[i]? = some w2 := by simpa using e2
      rw [hu2] at q; exact (Option.some.inj q).symm
    subst e1' e2'
    refine ⟨_, rfl, wpAny_letOwnedTupleGo_zip (s := { s with heap := h', toks := tk }) z' fun h'' z'' sb => ?_⟩
    have hT2 : h''.get? s.heap.objs.size = some { cls := .type "tuple", data := .seq #[w1, w2] } := (sb.2 _ (Nat.ne_of_gt hzl)).trans hT
    have new : ObjOk X.prog X.w (upd H s.heap.objs.size (.tup [x, y])) h'' s.heap.objs.size (.tup [x, y]) :=
      ⟨by show 2 ≤ sizeLine; decide, [w1, w2], .cons ru (.cons ru2 .nil), ⟨_, hT2, rfl, _, rfl⟩⟩
    have I1 : Inv X pins σ (upd H s.heap.objs.size (.tup [x, y])) { s with heap := h'', toks := tk } :=
      I.turnedNew (t' := tk) (ch := [z, TI, TO, i1, i2]) (fun c o hb q => (sb.2 c (fun q' => hb (by simp [q']))).trans (hk c o (fun q' => hb (by simp [q'])) (fun q' => hb (by simp [q'])) (fun q' => hb (by simp [q'])) (fun q' => hb (by simp [q'])) q)) hf (Nat.le_refl _) new
    refine ⟨.ref s.heap.objs.size, _, I1, rfl, ⟨_, x, y, rfl, I.hok.fresh (Nat.le_refl _), rfl, fun l hl => by rw [sqA_inj I hl hqx]; exact hx, fun l hl => by rw [sqA_inj I hl hqy]; exact hy⟩, ⟨z'', ?_, ⟨w1, w2, ?_⟩, ?_, ?_⟩, fun c hcm => ?_⟩
    · exact (sb.2 _ D.TIz).trans (hk _ _ D.TIz D.TITO D.TIi1 D.TIi2 hTI)
    · exact (sb.2 _ D.TOz).trans TO'
    · exact s1.1.at fun o q => (sb.2 _ (Ne.symm D.zi1)).trans q
    · exact s2.1.at fun o q => (sb.2 _ (Ne.symm D.zi2)).trans q
    · have hlt : c < s.heap.objs.size := by
        have e' : c = z ∨ c = TI ∨ c = TO ∨ c = i1 ∨ c = i2 := by simpa using hcm
        rcases e' with q | q | q | q | q
        · rw [q]; exact hzl
        · rw [q]; exact Heap.lt_size hTI
        · rw [q]; exact Heap.lt_size hTO
        · rw [q]; obtain ⟨_, e1, _⟩ := h1.obj; exact Heap.lt_size e1
        · rw [q]; obtain ⟨_, e2, _⟩ := h2.obj; exact Heap.lt_size e2
      rw [upd_ne (Nat.ne_of_lt hlt)]
      exact (hf c hcm).1
  done := by
    intro X hP hw hK hc i pins s σ H E I hf st hg
    subst hP hw hK
    obtain ⟨hz, hTI, ⟨x0, y0, hTO⟩, h1, h2⟩ := st
    obtain ⟨xs, ys, hqx, hqy, l1, l2, hend⟩ := hg
    obtain ⟨its, rv, p⟩ := srcA I hqx
    obtain ⟨its2, rv2, p2⟩ := srcA I hqy
    have n1 := rv.length
    have n2 := rv2.length
    have hh : X.A.in1.handled = none := I.ok.hd hc
    exact wpAny_pyNext_zipD2_end D (drawsA k1 hh i1 a na1 its.toArray) (drawsA k2 hh i2 b nb2 its2.toArray) hz hTI hTO ⟨h1, p⟩ ⟨h2, p2⟩ (by simp; omega) (by simp; omega) (by simp; omega) fun h' tk hk => ⟨rfl, I.turnedL (t' := tk) (ch := [z, TI, TO, i1, i2]) (fun c o hb q =>
      hk c o (fun q' => hb (by simp [q'])) (fun q' => hb (by simp [q'])) (fun q' => hb (by simp [q'])) (fun q' => hb (by simp [q'])) q) hf⟩
  self := fun A i s Q E st h => wpAny_pyIter_zip st.1 h

def iZipW (K : PySem.W.Frag) (ta : TA) : TI := fun σ H R => ta σ H fun vs H1 => ∃ k1 k2 a b xs ys, vs = [.ref a, .ref b] ∧ SqA K k1 H1 a xs ∧ SqA K k2 H1 b ys ∧ R (ItZ K k1 k2 a b) H1
theorem pi_zipW {X : Cx} {e e2 : Expr} {ta : TA} {p pos tpos : Pos} {elts : List Expr} {kk : Nat} (hg : Gl X "zip") (hm : X.mg "zip" = none) (ha : PA X [e, e2] ta)
    (hs : starEach [e, e2] X.env = (false, eval e X.env) :: starEach [e2] X.env := by rfl) (hpl : (backTo pos (starEach [e2] X.env)).any (·.1) = false := by rfl) :
    PI X (.Tuple elts kk tpos) (.Call (.Name "zip" p) [e, e2] [] pos) (iZipW X.K ta) := by
  refine ⟨fun pins s σ H R I h => ?_⟩
  refine PyProof.Rows.Call_ (ld_blt I hg hm PyProof.Rows.boot_zip (PyProof.Rows.callWith_type1 (thn (ha.run pos pins s σ H _ I h) fun us s1 ⟨vs, H1, I1, r1, q1⟩ => ?_) hs hpl))
  obtain ⟨k1, k2, a, b, xs, ys, ex, hqx, hqy, q⟩ := q1
  subst ex
  cases r1 with
  | cons r rr =>
    cases rr with
    | cons r' rr =>
      cases rr
      cases r
      cases r'
      have fresh5 : ∀ c, c ∈ [s1.heap.objs.size + 4, s1.heap.objs.size + 2, s1.heap.objs.size + 3, s1.heap.objs.size, s1.heap.objs.size + 1] → FpOk X pins H1 c := fun c hcm => by
        have e' : c = s1.heap.objs.size + 4 ∨ c = s1.heap.objs.size + 2 ∨ c = s1.heap.objs.size + 3 ∨ c = s1.heap.objs.size ∨ c = s1.heap.objs.size + 1 := by simpa using hcm
        have hle : s1.heap.objs.size ≤ c := by
          rcases e' with z | z | z | z | z
          · rw [z]; exact Nat.le_add_right _ _
          · rw [z]; exact Nat.le_add_right _ _
          · rw [z]; exact Nat.le_add_right _ _
          · rw [z]; exact Nat.le_refl _
          · rw [z]; exact Nat.le_add_right _ _
        exact I1.fpOk hle (I1.hok.fresh hle)
      obtain ⟨its, rv, p1⟩ := srcA I1 hqx
      obtain ⟨its2, rv2, p2⟩ := srcA I1 hqy
      refine zip_begins2 (beginsA k1 a its.toArray) (beginsA k2 b its2.toArray) p1 p2 fun h' hz hTI hTO h1 h2 hsz hk => wpAny_pyIter_zip hz ?_
      have I2 : Inv X pins σ H1 { s1 with heap := h' } := I1.kept (t' := s1.toks) hk
      have la := p1.lt
      have lb := p2.lt
      exact ⟨s1.heap.objs.size + 4, [s1.heap.objs.size + 4, s1.heap.objs.size + 2, s1.heap.objs.size + 3, s1.heap.objs.size, s1.heap.objs.size + 1], _, _, H1, rfl, I2,
        turn_zipW (zip_sep2 (fp1 := [a]) (fp2 := [b]) (by simpa using la) (by simpa using lb)) (Nat.ne_of_lt la) (Nat.ne_of_lt (Nat.lt_succ_of_lt lb)), ⟨hz, hTI, ⟨_, _, hTO⟩, isIt0 h1, isIt0 h2⟩, fresh5, q⟩
/-! ### enumerate of a list or tuple -/
def ItE (K : PySem.W.Frag) (k : Bool) (a : Addr) : It :=
  ⟨fun i H => ∃ (xs : List V) (x : V), SqA K k H a xs ∧ xs[i]? = some x, fun i H v H' => ∃ T x, v = .ref T ∧ H T = none ∧ H' = upd H T (.tup [.int (i : Nat), x]) ∧ ∀ xs, SqA K k H a xs → xs[i]? = some x, fun i H => ∃ xs : List V, SqA K k H a xs ∧ xs.length = i⟩
theorem turn_enumW {P : Program} {w : World} {K : PySem.W.Frag} {elts : List Expr} {kk : Nat} {tpos : Pos} (k : Bool) (a e it : Addr) (hne : e ≠ it) (hea : e ≠ a) (hai : a ≠ it) :
    Turn P w K (.Tuple elts kk tpos) (ItE K k a) [e, it] e (fun i h => (∃ old, IsEnum h e it ((i : Nat) : Int) old) ∧ IsIt k h it a i) where
  mem := by simp
  obj := fun i h st b hb => by
    obtain ⟨⟨old, he⟩, hi⟩ := st
    have e' : b = e ∨ b = it := by simpa using hb
    rcases e' with z | z
    · rw [z]; exact ⟨_, he, fun v q => nomatch q⟩
    · rw [z]; exact hi.obj
  keep := fun i h h' st k => let ⟨⟨old, he⟩, hi⟩ := st; ⟨⟨old, k e (by simp) _ he⟩, hi.at fun o q => k it (by simp) o q⟩
  item := by
    intro X hP hw hK hc i pins s σ H E I hf st hg
    subst hP hw hK
    obtain ⟨⟨old, he⟩, hit⟩ := st
    obtain ⟨xs, x, hq, hx⟩ := hg
    obtain ⟨its, rv, p⟩ := srcA I hq
    obtain ⟨u, hu, ru⟩ := rv.get hx
    have hh : X.A.in1.handled = none := I.ok.hd hc
    have hel : e < s.heap.objs.size := Heap.lt_size he
    have hil : it < s.heap.objs.size := by obtain ⟨_, q, _⟩ := hit.obj; exact Heap.lt_size q
    refine wpAny_pyNext_enum_itemC (drawsA k hh it a hai its.toArray) he ⟨hit, p⟩ (by
      have := (List.getElem?_eq_some_iff.mp hu).1
      simpa using this) hne (by simp [hne, hea]) fun w1 h' tk e1 ho hs' hT hsz hk => ?_
    have e1' : w1 = u := by
      have q : its[i]? = some w1 := by simpa using e1
      rw [hu] at q; exact (Option.some.inj q).symm
    subst e1'
    refine ⟨_, rfl, wpAny_letOwnedTupleGo_enum (s := { s with heap := h', toks := tk + 1 }) ho fun h'' he' sb => ?_⟩
    have hT2 : h''.get? s.heap.objs.size = some { cls := .type "tuple", data := .seq #[.int i tk, w1] } := (sb.2 _ (Nat.ne_of_gt hel)).trans hT
    have new : ObjOk X.prog X.w (upd H s.heap.objs.size (.tup [.int (i : Nat), x])) h'' s.heap.objs.size (.tup [.int (i : Nat), x]) :=
      ⟨by show 2 ≤ sizeLine; decide, [.int i tk, w1], .cons ⟨_, rfl⟩ (.cons ru .nil), ⟨_, hT2, rfl, _, rfl⟩⟩
    have I1 : Inv X pins σ (upd H s.heap.objs.size (.tup [.int (i : Nat), x])) { s with heap := h'', toks := tk + 1 } :=
      I.turnedNew (ch := [e, it]) (fun b ob hb q => (sb.2 b (fun z => hb (by simp [z]))).trans (hk b ob (fun z => hb (by simp [z])) (fun z => hb (by simp [z])) q)) hf (Nat.le_refl _) new
    refine ⟨.ref s.heap.objs.size, _, I1, rfl, ⟨_, x, rfl, I.hok.fresh (Nat.le_refl _), rfl, fun ys hy => by rw [sqA_inj I hy hq]; exact hx⟩, ⟨⟨w1, ?_⟩, hs'.1.at fun o q => (sb.2 it (Ne.symm hne)).trans q⟩, fun b hb => ?_⟩
    · have e1 : ((i + 1 : Nat) : Int) = (i : Int) + 1 := by omega
      rw [e1]; exact he'
    · have hb' : b < s.heap.objs.size := by
        have e' : b = e ∨ b = it := by simpa using hb
        rcases e' with z | z
        · rw [z]; exact hel
        · rw [z]; exact hil
      rw [upd_ne (Nat.ne_of_lt hb')]
      exact (hf b hb).1
  done := by
    intro X hP hw hK hc i pins s σ H E I hf st hg
    subst hP hw hK
    obtain ⟨⟨old, he⟩, hit⟩ := st
    obtain ⟨xs, hq, hx⟩ := hg
    obtain ⟨its, rv, p⟩ := srcA I hq
    have hl := rv.length
    have hh : X.A.in1.handled = none := I.ok.hd hc
    have e1 : its.toArray.size = i := by simp; omega
    exact wpAny_pyNext_enum_endD (drawsA k hh it a hai its.toArray) he (by rw [e1]; exact ⟨hit, p⟩) fun h' eb => ⟨rfl, I.turnedL (t' := s.toks) (ch := [e, it]) (fun b o hb q => eb b o (fun z => hb (by simp [z])) q) hf⟩
  self := fun A i s Q E st h => let ⟨⟨_, he⟩, _⟩ := st; wpAny_pyIter_enum he h
def iEnumW (K : PySem.W.Frag) (ta : TA) : TI := fun σ H R => ta σ H fun vs H1 => ∃ k a xs, vs = [.ref a] ∧ SqA K k H1 a xs ∧ R (ItE K k a) H1
theorem pi_enumW {X : Cx} {e : Expr} {ta : TA} {p pos tpos : Pos} {elts : List Expr} {kk : Nat} (hg : Gl X "enumerate") (hm : X.mg "enumerate" = none) (ha : PA X [e] ta) (hs : starEach [e] X.env = [(false, eval e X.env)] := by rfl) :
    PI X (.Tuple elts kk tpos) (.Call (.Name "enumerate" p) [e] [] pos) (iEnumW X.K ta) := by
  refine ⟨fun pins s σ H R I h => ?_⟩
  refine PyProof.Rows.Call_ (ld_blt I hg hm PyProof.Rows.boot_enumerate (PyProof.Rows.callWith_type1 (thn (ha.run pos pins s σ H _ I h) fun us s1 ⟨vs, H1, I1, r1, q1⟩ => ?_) hs rfl))
  obtain ⟨k, a, xs, ex, hq, q⟩ := q1
  subst ex
  cases r1 with
  | cons r rr =>
    cases rr
    cases r
    obtain ⟨its, rv, p'⟩ := srcA I1 hq
    refine enum_beginsW (beginsA k a its.toArray) p' fun h' he h1 hsz hk => wpAny_pyIter_enum he ?_
    have I2 : Inv X pins σ H1 { s1 with heap := h' } := I1.kept (t' := s1.toks) hk
    have la := p'.lt
    refine ⟨s1.heap.objs.size + 1, [s1.heap.objs.size + 1, s1.heap.objs.size], _, _, H1, rfl, I2, turn_enumW k a (s1.heap.objs.size + 1) s1.heap.objs.size (Nat.succ_ne_self _) (Nat.ne_of_gt (Nat.lt_succ_of_lt la)) (Nat.ne_of_lt la), ⟨⟨.none, he⟩, isIt0 h1⟩, fun b hb => ?_, q⟩
    have e' : b = s1.heap.objs.size + 1 ∨ b = s1.heap.objs.size := by simpa using hb
    have hle : s1.heap.objs.size ≤ b := by
      rcases e' with z | z
      · rw [z]; exact Nat.le_add_right _ _
      · rw [z]; exact Nat.le_refl _
    exact I1.fpOk hle (I1.hok.fresh hle)
end Wn
set_option Elab.async false
set_option linter.all false
set_option maxRecDepth 100000
set_option maxHeartbeats 2000000
set_option autoImplicit false
namespace Wn
open PySem L2

structure Ed where
  nx : Ro → Mm → Prop
  rt : QV
  bk : Ro → Mm → Prop := fun _ _ => False
  ct : Ro → Mm → Prop := fun _ _ => False
  ex : Addr → Option (List (Str × MV)) → Ro → Mm → Prop := fun _ _ _ _ => False
/-- an exception's own dict, as the store sees it -/
def Fx (K : PySem.W.Frag) (π : List Addr) (G H : Hp) : Option Addr → Option (List (Str × MV)) → Prop
  | none, none => True
  | some d, some gs => ∃ fs, H d = some (.xd fs) ∧ Paired (Rf K G π) fs gs ∧ d ∉ π ∧ G d = none
  | _, _ => False
/-- what the air wishes -/
def Wof (K : PySem.W.Frag) (π : List Addr) (G H : Hp) (Ex : Addr → Option (List (Str × MV)) → Ro → Mm → Prop) : WX := fun cls d σ' H' =>
  ∃ C fo ρ' π' G' m', cls = .ref C ∧ Xt π G H π' G' H' ∧ Hk K π' G' H' m' ∧ Sk K π' G' σ' ρ' ∧ Fx K π' G' H' d fo ∧ (∀ dd, d = some dd → H dd = none) ∧ Ex C fo ρ' m'
theorem Wof.imp {K : PySem.W.Frag} {π π1 : List Addr} {G H G1 H1 : Hp} {Ex Ex1 : Addr → Option (List (Str × MV)) → Ro → Mm → Prop} (e : Xt π G H π1 G1 H1) (h : ∀ C fo ρ m, Ex1 C fo ρ m → Ex C fo ρ m) {c : Value} {d : Option Addr} {σ : St} {H' : Hp} (w : Wof K π1 G1 H1 Ex1 c d σ H') : Wof K π G H Ex c d σ H' :=
  let ⟨C, fo, ρ', π', G', m', a1, a2, a3, a4, a5, a6, a7⟩ := w
  ⟨C, fo, ρ', π', G', m', a1, e.trans a2, a3, a4, a5, fun dd ed => Classical.byContradiction fun z => e.al dd z (a6 dd ed), h _ _ _ _ a7⟩
section
variable {ι : Type}
def Wx (K : PySem.W.Frag) (π : List Addr) (G H : Hp) (Q : Ro → Mm → Prop) (R : St → Hp → Prop) : Prop := ∀ σ' ρ' π' G' H' m', Xt π G H π' G' H' → Hk K π' G' H' m' → Sk K π' G' σ' ρ' → Q ρ' m' → R σ' H'
structure Wd (X : ι → Cx) (K : PySem.W.Frag) (π : List Addr) (G H : Hp) (D : Ed) (D' : Ends) : Prop where
  nx : Wx K π G H D.nx D'.nx
  rt : Wv K π G H D.rt D'.rt
  bk : Wx K π G H D.bk D'.bk
  ct : Wx K π G H D.ct D'.ct
  ex : ∀ j, Takes (X j) (Wof K π G H D.ex)
def TsOf (X : ι → Cx) (st : Stmt) : TS := fun D σ H => ∃ t, (∀ j, PS (X j) st t) ∧ t D σ H
def TssOf (X : ι → Cx) (st : List Stmt) : TS := fun D σ H => ∃ t, (∀ j, PSs (X j) st t) ∧ t D σ H
def TgOf (X : ι → Cx) (tg : Expr) : TG := fun v σ H Q => ∃ t, (∀ j, PG (X j) tg t) ∧ t v σ H Q
def TgsOf (X : ι → Cx) (tg : List Expr) : TGs := fun v σ H Q => ∃ t, (∀ j, PGs (X j) tg t) ∧ t v σ H Q
def TiOf (X : ι → Cx) (tg it : Expr) : TI := fun σ H R => ∃ t, (∀ j, PI (X j) tg it t) ∧ t σ H R
def TtsOf (X : ι → Cx) (es : List Expr) : TT := fun σ H Q => ∃ t, (∀ j, PTs (X j) es t) ∧ t σ H Q
def SetOf (X : ι → Cx) : TSet := fun o i v H Q => ∃ t, (∀ j, PSet (X j) t) ∧ t o i v H Q
theorem tsOf (X : ι → Cx) (e : Stmt) (j : ι) : PS (X j) e (TsOf X e) := ⟨fun pins s σ H Q I ⟨t, p, h⟩ => (p j).run pins s σ H Q I h⟩
theorem tssOf (X : ι → Cx) (e : List Stmt) (j : ι) : PSs (X j) e (TssOf X e) := ⟨fun pins s σ H Q I ⟨t, p, h⟩ => (p j).run pins s σ H Q I h⟩
theorem tgOf (X : ι → Cx) (e : Expr) (j : ι) : PG (X j) e (TgOf X e) := ⟨fun pins s σ H v u Q I r ⟨t, p, h⟩ => (p j).run pins s σ H v u Q I r h⟩
theorem tgsOf (X : ι → Cx) (e : List Expr) (j : ι) : PGs (X j) e (TgsOf X e) := ⟨fun pins s σ H v u Q I r ⟨t, p, h⟩ => (p j).run pins s σ H v u Q I r h⟩
theorem tiOf (X : ι → Cx) (tg it : Expr) (j : ι) : PI (X j) tg it (TiOf X tg it) := ⟨fun pins s σ H R I ⟨t, p, h⟩ => (p j).run pins s σ H R I h⟩
theorem ttsOf (X : ι → Cx) (es : List Expr) (j : ι) : PTs (X j) es (TtsOf X es) := ⟨fun pins s σ H Q I ⟨t, p, h⟩ => (p j).run pins s σ H Q I h⟩
theorem setOf (X : ι → Cx) (j : ι) : PSet (X j) (SetOf X) := fun pins s σ H o i v ov iv u Q I r1 r2 r3 ⟨t, p, h⟩ => p j pins s σ H o i v ov iv u Q I r1 r2 r3 h

def Ws1 (X : ι → Cx) (K : PySem.W.Frag) (st : Stmt) (ρ : Ro) (m : Mm) (D : Ed) : Prop := ∀ π G σ H D', Hk K π G H m → Sk K π G σ ρ → Wd X K π G H D D' → TsOf X st D' σ H
def Ws (X : ι → Cx) (K : PySem.W.Frag) (st : List Stmt) (ρ : Ro) (m : Mm) (D : Ed) : Prop := ∀ π G σ H D', Hk K π G H m → Sk K π G σ ρ → Wd X K π G H D D' → TssOf X st D' σ H
def Wg (X : ι → Cx) (K : PySem.W.Frag) (vs : Nat → Prop) (tg : Expr) (x : MV) (ρ : Ro) (m : Mm) (Q : Ro → Mm → Prop) : Prop := ∀ π G σ H R v, Hk K π G H m → Sk K π G σ ρ → Rv K G π v x →
  (∀ σ' ρ' π' G' H' m', Xt π G H π' G' H' → Hk K π' G' H' m' → Sk K π' G' σ' ρ' → σ'.length = σ.length → (∀ k, ¬ vs k → σ'[k]? = σ[k]?) → Q ρ' m' → R σ' H') → TgOf X tg v σ H R
def Wgs (X : ι → Cx) (K : PySem.W.Frag) (vs : Nat → Prop) (tg : List Expr) (xs : List MV) (ρ : Ro) (m : Mm) (Q : Ro → Mm → Prop) : Prop := ∀ π G σ H R us, Hk K π G H m → Sk K π G σ ρ → Rvs K G π us xs →
  (∀ σ' ρ' π' G' H' m', Xt π G H π' G' H' → Hk K π' G' H' m' → Sk K π' G' σ' ρ' → σ'.length = σ.length → (∀ k, ¬ vs k → σ'[k]? = σ[k]?) → Q ρ' m' → R σ' H') → TgsOf X tg us σ H R
def SetW (X : ι → Cx) (K : PySem.W.Frag) (o i x : MV) (m : Mm) (Q : Mm → Prop) : Prop := ∀ π G H R ov iv v, Hk K π G H m → Rv K G π ov o → Rv K G π iv i → Rv K G π v x → (∀ π' G' H' m', Xt π G H π' G' H' → Hk K π' G' H' m' → Q m' → R H') → SetOf X ov iv v H R
/-- an iterator of the items xs, while gd holds of the store -/
def ItOk (K : PySem.W.Frag) (π : List Addr) (G H : Hp) (J : It) (xs : List MV) (gd : Mm → Prop) : Prop := ∀ π' G' H' m', Xt π G H π' G' H' → Hk K π' G' H' m' → gd m' → (∀ i, i < xs.length → J.go i H') ∧ J.stop xs.length H' ∧
  ∀ i v H'', i < xs.length → J.yld i H' v H'' → ∃ x G'', xs[i]? = some x ∧ Xt π' G' H' π' G'' H'' ∧ Hk K π' G'' H'' m' ∧ Rv K G'' π' v x
def Wi (X : ι → Cx) (K : PySem.W.Frag) (tg it : Expr) (ρ : Ro) (m : Mm) (Q : List MV → (Mm → Prop) → Mm → Prop) : Prop := ∀ π G σ H R, Hk K π G H m → Sk K π G σ ρ →
  (∀ J xs gd π' G' H' m', Xt π G H π' G' H' → Hk K π' G' H' m' → ItOk K π' G' H' J xs gd → Q xs gd m' → R J H') → TiOf X tg it σ H R
def Wts (X : ι → Cx) (K : PySem.W.Frag) (es : List Expr) (ρ : Ro) (m : Mm) (Q : Bool → Mm → Prop) : Prop := ∀ π G σ H R, Hk K π G H m → Sk K π G σ ρ → Wb K π G H Q R → TtsOf X es σ H R
end

section
variable {ι : Type} {X : ι → Cx} {P : Program} {w : World} {K : PySem.W.Frag} {mg : Str → Option Value} {base : Heap} {N : List Str} {sc : Scope} {fv : Str → Bool} {k : Nat} {ρ : Ro} {m : Mm} {Q Q' : QV} {D : Ed} {a b c e tg : Expr} {pos p : Pos} {x y z : MV} {st : Stmt} {rest : List Stmt}
variable {π π1 : List Addr} {G H G1 H1 : Hp}
theorem Wx.xt {Q : Ro → Mm → Prop} {R : St → Hp → Prop} (h : Wx K π G H Q R) (e : Xt π G H π1 G1 H1) : Wx K π1 G1 H1 Q R := fun σ' ρ' π' G' H' m' e' => h σ' ρ' π' G' H' m' (e.trans e')
theorem Wd.xt {D' : Ends} (h : Wd X K π G H D D') (e : Xt π G H π1 G1 H1) : Wd X K π1 G1 H1 D D' := ⟨h.nx.xt e, h.rt.xt e, h.bk.xt e, h.ct.xt e, fun j => (h.ex j).imp fun _ _ _ _ w => w.imp e fun _ _ _ _ q => q⟩
theorem Ws.mono {ss : List Stmt} {D D1 : Ed} (h : Ws X K ss ρ m D) (h1 : ∀ ρ m, D.nx ρ m → D1.nx ρ m) (h2 : ∀ x m, D.rt x m → D1.rt x m) (h3 : ∀ ρ m, D.bk ρ m → D1.bk ρ m) (h4 : ∀ ρ m, D.ct ρ m → D1.ct ρ m) (h5 : ∀ C fo ρ m, D.ex C fo ρ m → D1.ex C fo ρ m) : Ws X K ss ρ m D1 := fun π G σ H D' hk sk wd =>
  h π G σ H D' hk sk ⟨fun σ' ρ' π' G' H' m' e a b c => wd.nx σ' ρ' π' G' H' m' e a b (h1 _ _ c), fun σ' ρ' π' G' H' m' e a b c => wd.rt σ' ρ' π' G' H' m' e a b (h2 _ _ c), fun σ' ρ' π' G' H' m' e a b c => wd.bk σ' ρ' π' G' H' m' e a b (h3 _ _ c), fun σ' ρ' π' G' H' m' e a b c => wd.ct σ' ρ' π' G' H' m' e a b (h4 _ _ c), fun j => (wd.ex j).imp fun _ _ _ _ w => w.imp Xt.refl h5⟩
theorem ws_nil (q : D.nx ρ m) : Ws X K [] ρ m D := fun π G σ H D' hk sk wd => ⟨_, fun _ => pss_nil, wd.nx σ ρ π G H m Xt.refl hk sk q⟩
theorem ws_cons (h : Ws1 X K st ρ m { D with nx := fun ρ' m' => Ws X K rest ρ' m' D }) : Ws X K (st :: rest) ρ m D := fun π G σ H D' hk sk wd =>
  ⟨_, fun j => pss_cons (tsOf X st j) (tssOf X rest j), h π G σ H _ hk sk ⟨fun σ' ρ' π' G' H' m' e hk' sk' q => q π' G' σ' H' D' hk' sk' (wd.xt e), wd.rt, wd.bk, wd.ct, wd.ex⟩⟩
theorem ws_pass (q : D.nx ρ m) : Ws1 X K (.Pass pos) ρ m D := fun π G σ H D' hk sk wd => ⟨_, fun _ => ps_pass, wd.nx σ ρ π G H m Xt.refl hk sk q⟩
theorem ws_break (q : D.bk ρ m) : Ws1 X K (.Break pos) ρ m D := fun π G σ H D' hk sk wd => ⟨_, fun _ => ps_break, wd.bk σ ρ π G H m Xt.refl hk sk q⟩
theorem ws_cont (q : D.ct ρ m) : Ws1 X K (.Continue pos) ρ m D := fun π G σ H D' hk sk wd => ⟨_, fun _ => ps_continue, wd.ct σ ρ π G H m Xt.refl hk sk q⟩
theorem ws_expr (h : We X K e ρ m fun _ m' => D.nx ρ m') (hs : ∀ env : Env, swapsWith e none pos.line env = pure false := by intro _; rfl) : Ws1 X K (.Expr e pos) ρ m D := fun π G σ H D' hk sk wd =>
  ⟨_, fun j => ps_expr (teOf X e j) (hs _), h π G σ H _ hk sk fun v x π' G' H' m' e' hk' _ q => wd.nx σ ρ π' G' H' m' e' hk' (sk.xt e') q⟩
theorem ws_ret (h : We X K e ρ m D.rt) : Ws1 X K (.Return (some e) pos) ρ m D := fun π G σ H D' hk sk wd => ⟨_, fun j => ps_ret (teOf X e j), h π G σ H _ hk sk wd.rt⟩
theorem ws_retN (q : D.rt (.d .none) m) : Ws1 X K (.Return none pos) ρ m D := fun π G σ H D' hk sk wd => ⟨_, fun j => ps_retN, wd.rt _ (.d .none) π G H m Xt.refl hk Da.non q⟩
theorem ws_if {ss us : List Stmt} (h : Wt X K c ρ m fun k m' => if k = true then Ws X K ss ρ m' D else Ws X K us ρ m' D) : Ws1 X K (.If c ss us pos) ρ m D := fun π G σ H D' hk sk wd =>
  ⟨_, fun j => ps_if (ttOf X c j) (tssOf X ss j) (tssOf X us j), h π G σ H _ hk sk fun k π' G' H' m' e' hk' q => by
    cases k with
    | true => rw [if_pos rfl] at q ⊢; exact q π' G' σ H' D' hk' (sk.xt e') (wd.xt e')
    | false => rw [if_neg Bool.false_ne_true] at q ⊢; exact q π' G' σ H' D' hk' (sk.xt e') (wd.xt e')⟩
/-! targets -/
theorem Sk.set {σ : St} (h : Sk K π G σ ρ) {v : V} (r : Rv K G π v x) (i : Nat) : Sk K π G (σ.set i (some v)) (ρ.set i (some x)) := by
  refine ⟨by simp [h.len], fun j y q => ?_⟩
  by_cases e : i = j
  · subst e
    have hi : i < ρ.length := by
      by_cases z : i < ρ.length
      · exact z
      · rw [List.getElem?_eq_none (by simp; omega)] at q; cases q
    rw [List.getElem?_set_self hi] at q
    cases q
    exact ⟨v, List.getElem?_set_self (by rw [h.len]; exact hi), r⟩
  · rw [List.getElem?_set_ne e] at q ⊢
    exact h.get j y q
theorem wg_name (F : Fam X P w K mg base N sc fv k) (i : Nat) {vs : Nat → Prop} {nm : Str} {Q : Ro → Mm → Prop} (q : Q (ρ.set i (some x)) m) (hv : vs i := by first | trivial | decide) (hN : N[i]? = some nm := by rfl) (hl : Loc sc nm := by first | exact Or.inl rfl | exact Or.inr rfl)
    (hf : fv nm = true ∨ sc.names.lookup nm = some .local := by first | exact Or.inl rfl | exact Or.inr rfl) : Wg X K vs (.Name nm pos) x ρ m Q := fun π G σ H R v hk sk rv wx =>
  ⟨_, fun j => pg_name (i := i) (by rw [F.cN]; exact F.nd) (by rw [F.cN]; exact hN) (by rw [F.cS]; exact hl) (by rw [F.cF, F.cS]; exact hf),
    wx _ _ π G H m Xt.refl hk (sk.set rv i) (by simp) (fun k hk => List.getElem?_set_ne (fun z => hk (by rw [← z]; exact hv))) q⟩
theorem wgs_nil {vs : Nat → Prop} {Q : Ro → Mm → Prop} (q : Q ρ m) : Wgs X K vs [] [] ρ m Q := fun π G σ H R us hk sk rv wx => by
  cases rv
  exact ⟨_, fun j => pgs_nil, rfl, wx σ ρ π G H m Xt.refl hk sk rfl (fun _ _ => rfl) q⟩
theorem wgs_cons {vs : Nat → Prop} {es : List Expr} {xs : List MV} {Q : Ro → Mm → Prop} (h : Wg X K vs e x ρ m fun ρ' m' => Wgs X K vs es xs ρ' m' Q) (hs : ∀ env : Env, (assignEach (e :: es) env).map (·.2) = assign e env :: (assignEach es env).map (·.2) := by intro _; rfl) : Wgs X K vs (e :: es) (x :: xs) ρ m Q := fun π G σ H R us hk sk rv wx => by
  cases rv with
  | cons r rs =>
    refine ⟨_, fun j => pgs_cons (tgOf X e j) (tgsOf X es j) (hs _), _, _, rfl, h π G σ H _ _ hk sk r fun σ1 ρ1 π1 G1 H1 m1 e1 hk1 sk1 l1 f1 q1 => ?_⟩
    exact q1 π1 G1 σ1 H1 R _ hk1 sk1 (Rvs.xt rs e1) fun σ2 ρ2 π2 G2 H2 m2 e2 hk2 sk2 l2 f2 q2 => wx σ2 ρ2 π2 G2 H2 m2 (e1.trans e2) hk2 sk2 (l2.trans l1) (fun k hk => (f2 k hk).trans (f1 k hk)) q2
theorem wg_tup (F : Fam X P w K mg base N sc fv k) {vs : Nat → Prop} {es : List Expr} {n : Nat} {ds : List PyData} {Q : Ro → Mm → Prop} (h : Wgs X K vs es (ds.map .d) ρ m Q) (hn : ∀ env : Env, (assignEach es env).length = ds.length := by intro _; rfl) (hst : ∀ env : Env, (assignEach es env).findIdx? (·.1) = none := by intro _; rfl) :
    Wg X K vs (.Tuple es n pos) (.d (.tuple ds)) ρ m Q := fun π G σ H R v hk sk rv wx => by
  obtain ⟨t, xs, rfl, ht, dt⟩ := Da.tupI rv
  refine ⟨gTup K ds.length (TgsOf X es), fun j => F.cK j ▸ pg_tup (F.calm j) (tgsOf X es j) (hn _) (hst _), t, xs, rfl, Same.tupq hk.sub ht, dt.len, ?_⟩
  exact h π G σ H R xs hk sk (data_rvs dt) wx
theorem wg_sub {vs : Nat → Prop} {o i : Expr} {Q : Ro → Mm → Prop} (h : We X K o ρ m fun y m1 => We X K i ρ m1 fun z m2 => SetW X K y z x m2 fun m3 => Q ρ m3)
    (ha : ∀ (env : Env) (v : Value), assign (.Subscript o i pos) env v = (do
      let ov ← holding [v] (eval o env)
      let iv ← holding [v, ov] (eval i env)
      standAt pos
      holding [v, ov, iv] (setItem ov iv v)
      release [v, ov, iv] []) := by intro _ _; rfl) : Wg X K vs (.Subscript o i pos) x ρ m Q := fun π G σ H R v hk sk rv wx =>
  ⟨_, fun j => pg_sub (teOf X o j) (teOf X i j) (setOf X j) (ha _), h π G σ H _ hk sk fun ov y π1 G1 H1 m1 e1 hk1 ro q1 => q1 π1 G1 σ H1 _ hk1 (sk.xt e1) fun iv z π2 G2 H2 m2 e2 hk2 ri q2 =>
    q2 π2 G2 H2 _ ov iv v hk2 (ro.xt e2) ri (rv.xt (e1.trans e2)) fun π3 G3 H3 m3 e3 hk3 q3 => wx σ ρ π3 G3 H3 m3 ((e1.trans e2).trans e3) hk3 (sk.xt ((e1.trans e2).trans e3)) rfl (fun _ _ => rfl) q3⟩
theorem paired_set {α β : Type} {F : α → β → Prop} {a : α} {b : β} (r : F a b) : ∀ {as : List α} {bs : List β} {k : Nat}, Paired F as bs → Paired F (as.set k a) (bs.set k b)
  | _, _, _, .nil => .nil
  | _, _, 0, .cons _ t => .cons r t
  | _, _, k + 1, .cons q t => .cons q (paired_set r t)
theorem setw_list {i : Nat} {n : Int} {k : Nat} {xs : List MV} {Q : Mm → Prop} (hi : m[i]? = some (.lst xs)) (hn : ixN xs.length n = some k) (q : Q (m.set i (.lst (xs.set k x)))) : SetW X K (.r i) (.d (.int n)) x m Q := fun π G H R ov iv v hk ro ri rv wx => by
  obtain ⟨a, ha, rfl⟩ := ro
  obtain rfl := Da.intI ri
  obtain ⟨a', u, h1, h2, vs, eu, rs⟩ := hk.obj i _ hi
  rw [ha] at h1; cases h1
  subst eu
  refine ⟨_, fun _ => set_list, a, vs, n, k, rfl, rfl, h2, by rw [Paired.length rs]; exact hn, wx π G _ _ (Xt.write (List.mem_of_getElem? ha)) (hk.write ha (show Rob K G π (.lst (vs.set k v)) (.lst (xs.set k x)) from ⟨_, rfl, paired_set rv rs⟩)) q⟩
theorem ws_asg (h : We X K e ρ m fun x m1 => Wg X K (fun _ => True) tg x ρ m1 D.nx) (hs : ∀ env : Env, swapsWithSole [tg] e pos.line env = pure false := by intro _; rfl) (hw : ∀ env : Env, swappedStores [tg] e env = pure none := by intro _; rfl)
    (h1 : ∀ env : Env, (assignEach [tg] env).map (·.2) = [assign tg env] := by intro _; rfl) : Ws1 X K (.Assign [tg] e pos) ρ m D := fun π G σ H D' hk sk wd =>
  ⟨_, fun j => ps_asg (teOf X e j) (tgOf X tg j) (hs _) (hw _) (h1 _), h π G σ H _ hk sk fun v x π1 G1 H1 m1 e1 hk1 rv q1 => q1 π1 G1 σ H1 _ v hk1 (sk.xt e1) rv fun σ2 ρ2 π2 G2 H2 m2 e2 hk2 sk2 _ _ q2 => wd.nx σ2 ρ2 π2 G2 H2 m2 (e1.trans e2) hk2 sk2 q2⟩
theorem ws_set (F : Fam X P w K mg base N sc fv k) (i : Nat) {nm : Str} {p' : Pos} (h : We X K e ρ m fun x m1 => D.nx (ρ.set i (some x)) m1) (hs : ∀ env : Env, swapsWith e (some (.Name nm p')) pos.line env = pure false := by intro _; rfl) (hN : N[i]? = some nm := by rfl) (hl : Loc sc nm := by first | exact Or.inl rfl | exact Or.inr rfl)
    (hf : fv nm = true ∨ sc.names.lookup nm = some .local := by first | exact Or.inl rfl | exact Or.inr rfl) : Ws1 X K (.Assign [.Name nm p'] e pos) ρ m D := fun π G σ H D' hk sk wd =>
  ⟨_, fun j => ps_set (i := i) (by rw [F.cN]; exact F.nd) (by rw [F.cN]; exact hN) (by rw [F.cS]; exact hl) (teOf X e j) (hs _) (by rw [F.cF, F.cS]; exact hf),
    h π G σ H _ hk sk fun v x π1 G1 H1 m1 e1 hk1 rv q1 => wd.nx _ _ π1 G1 H1 m1 e1 hk1 ((sk.xt e1).set rv i) q1⟩
/-! self.f = e -/
def putM (f : Str) (v : MV) : List (Str × MV) → List (Str × MV)
  | [] => [(f, v)]
  | (g, x) :: r => if g = f then (g, v) :: r else (g, x) :: putM f v r
theorem putF_putM {f : Str} {v : V} (r : Rv K G π v x) : ∀ {fs : List (Str × V)} {gs : List (Str × MV)}, Paired (Rf K G π) fs gs → Paired (Rf K G π) (putF f v fs) (putM f x gs)
  | _, _, .nil => .cons ⟨rfl, r⟩ .nil
  | _, _, .cons (a := p) (b := q) h t => by
    obtain ⟨p1, p2⟩ := p
    obtain ⟨q1, q2⟩ := q
    obtain ⟨e, rv⟩ := h
    have e' : p1 = q1 := e
    subst e'
    unfold putF putM
    by_cases z : p1 = f
    · rw [if_pos z, if_pos z]; exact .cons ⟨rfl, r⟩ t
    · rw [if_neg z, if_neg z]; exact .cons ⟨rfl, rv⟩ (putF_putM r t)
theorem ws_fld (F : Fam X P w K mg base N sc fv k) {f : Str} {o : Expr} {p' : Pos} (h : We X K e ρ m fun y m1 => We X K o ρ m1 fun z m2 => ∃ i C fs, z = .r i ∧ m2[i]? = some (.ins C fs) ∧ Cls K C ∧ NoAttr K C f ∧ fs.length < 1000 ∧ D.nx ρ (m2.set i (.ins C (putM f y fs))))
    (hs : ∀ env : Env, swapsWith e (some (.Attribute o f p')) pos.line env = pure false := by intro _; rfl) : Ws1 X K (.Assign [.Attribute o f p'] e pos) ρ m D := fun π G σ H D' hk sk wd =>
  ⟨sFld K (TeOf X o) (TeOf X e) f, fun j => F.cK j ▸ ps_fld (teOf X o j) (teOf X e j) (hs _), h π G σ H _ hk sk fun v y π1 G1 H1 m1 e1 hk1 rv q1 => q1 π1 G1 σ H1 _ hk1 (sk.xt e1) fun u z π2 G2 H2 m2 e2 hk2 ru ⟨i, C, fs, ez, hi, cl, na, hl, q2⟩ => by
    subst ez
    obtain ⟨c, hc, rfl⟩ := ru
    obtain ⟨a', u', h1, h2, dx, fs', eu, rf⟩ := hk2.obj i _ hi
    rw [hc] at h1; cases h1
    subst eu
    refine ⟨c, C, dx, fs', rfl, h2, cl, na, by rw [Paired.length rf]; exact hl, ?_⟩
    have e3 : Xt π2 G2 H2 π2 G2 (upd H2 c (.ins C dx (putF f v fs'))) := Xt.write (List.mem_of_getElem? hc)
    have e13 := (e1.trans e2).trans e3
    exact wd.nx σ ρ π2 G2 _ _ e13 (hk2.write hc (show Rob K G2 π2 (.ins C dx (putF f v fs')) (.ins C (putM f y fs)) from ⟨dx, _, rfl, putF_putM (rv.xt e2) rf⟩)) (sk.xt e13) q2⟩
end
end Wn
set_option Elab.async false
set_option linter.all false
set_option maxRecDepth 100000
set_option maxHeartbeats 2000000
set_option autoImplicit false
namespace Wn
open PySem L2
section
variable {ι : Type} {X : ι → Cx} {P : Program} {w : World} {K : PySem.W.Frag} {mg : Str → Option Value} {base : Heap} {N : List Str} {sc : Scope} {fv : Str → Bool} {k : Nat} {ρ : Ro} {m : Mm} {Q Q' : QV} {D : Ed} {a b c e tg it elt : Expr} {pos p : Pos} {x y z : MV} {st : Stmt} {rest body : List Stmt}
variable {π π1 : List Addr} {G H G1 H1 : Hp}
/-! ### for -/
theorem ws_for (F : Fam X P w K mg base N sc fv k)
    (h : Wi X K tg it ρ m fun xs gd m1 => ∃ I : Nat → Ro → Mm → Prop, I 0 ρ m1 ∧ (∀ i ρ' m', i ≤ xs.length → I i ρ' m' → gd m') ∧
      (∀ i x ρ' m', xs[i]? = some x → I i ρ' m' → Wg X K (fun _ => True) tg x ρ' m' fun ρ2 m2 => Ws X K body ρ2 m2 { D with nx := I (i + 1), ct := I (i + 1), bk := D.nx }) ∧ ∀ ρ' m', I xs.length ρ' m' → D.nx ρ' m')
    (hs : ∀ (env : Env) x, foldedSetIterable it env x = pure x := by intro _ _; rfl) : Ws1 X K (.For tg it body [] pos) ρ m D := fun π G σ H D' hk sk wd => by
  refine ⟨_, fun j => ps_for (F.px j) (F.calm j) (tiOf X tg it j) (tgOf X tg j) (tssOf X body j) (hs _), h π G σ H _ hk sk fun J xs gd π1 G1 H1 m1 e1 hk1 ok ⟨I, h0, hg, hb, hd⟩ => ?_⟩
  have wd1 := wd.xt e1
  refine ⟨fun i mm σ' H' => mm = xs.length - i ∧ i ≤ xs.length ∧ ∃ π' G' m' ρ', Xt π1 G1 H1 π' G' H' ∧ Hk K π' G' H' m' ∧ Sk K π' G' σ' ρ' ∧ I i ρ' m', ⟨_, rfl, Nat.zero_le _, π1, G1, m1, ρ, Xt.refl, hk1, sk.xt e1, h0⟩, ?_⟩
  rintro i mm σ2 H2 ⟨rfl, hi, π2, G2, m2, ρ2, e2, hk2, sk2, hI⟩
  obtain ⟨go, stop, yl⟩ := ok π2 G2 H2 m2 e2 hk2 (hg i ρ2 m2 hi hI)
  by_cases hlt : i < xs.length
  · refine .inr ⟨go i hlt, fun σ' H' => ∃ π' G' m' ρ', Xt π1 G1 H1 π' G' H' ∧ Hk K π' G' H' m' ∧ Sk K π' G' σ' ρ' ∧ I (i + 1) ρ' m', fun σ' H' q => ⟨xs.length - (i + 1), by omega, rfl, hlt, q⟩, fun v H3 y => ?_⟩
    obtain ⟨x, G3, hx, e3, hk3, rx⟩ := yl i v H3 hlt y
    refine hb i x ρ2 m2 hx hI π2 G3 σ2 H3 _ v hk3 (sk2.xt e3) rx fun σ4 ρ4 π4 G4 H4 m4 e4 hk4 sk4 _ _ q4 => ?_
    have e24 := (e2.trans e3).trans e4
    exact q4 π4 G4 σ4 H4 _ hk4 sk4 ⟨fun σ' ρ' π' G' H' m' e' hk' sk' q => ⟨π', G', m', ρ', e24.trans e', hk', sk', q⟩, (wd1.xt e24).rt, (wd1.xt e24).nx, fun σ' ρ' π' G' H' m' e' hk' sk' q => ⟨π', G', m', ρ', e24.trans e', hk', sk', q⟩, (wd1.xt e24).ex⟩
  · have e : i = xs.length := by omega
    subst e
    exact .inl ⟨stop, wd1.nx σ2 ρ2 π2 G2 H2 m2 e2 hk2 sk2 (hd ρ2 m2 hI)⟩
/-! ### while -/
theorem ws_while (F : Fam X P w K mg base N sc fv k) (I : Nat → Ro → Mm → Prop) {n0 : Nat} (h0 : I n0 ρ m)
    (hb : ∀ n ρ' m', I n ρ' m' → Wt X K c ρ' m' fun b m1 => if b = true then Ws X K body ρ' m1 { D with nx := fun ρ2 m2 => ∃ n', n' < n ∧ I n' ρ2 m2, ct := fun ρ2 m2 => ∃ n', n' < n ∧ I n' ρ2 m2, bk := D.nx } else D.nx ρ' m1) : Ws1 X K (.While c body [] pos) ρ m D := fun π G σ H D' hk sk wd => by
  refine ⟨_, fun j => ps_while (F.px j) (ttOf X c j) (tssOf X body j), fun mm σ' H' => ∃ π' G' m' ρ', Xt π G H π' G' H' ∧ Hk K π' G' H' m' ∧ Sk K π' G' σ' ρ' ∧ I mm ρ' m', ⟨n0, π, G, m, ρ, Xt.refl, hk, sk, h0⟩, ?_⟩
  rintro mm σ2 H2 ⟨π2, G2, m2, ρ2, e2, hk2, sk2, hI⟩
  refine hb mm ρ2 m2 hI π2 G2 σ2 H2 _ hk2 sk2 fun b π3 G3 H3 m3 e3 hk3 q3 => ?_
  have e23 := e2.trans e3
  cases b with
  | true =>
    rw [if_pos rfl] at q3 ⊢
    refine ⟨fun σ' H' => ∃ n', n' < mm ∧ ∃ π' G' m' ρ', Xt π G H π' G' H' ∧ Hk K π' G' H' m' ∧ Sk K π' G' σ' ρ' ∧ I n' ρ' m', fun σ' H' ⟨n', l, q⟩ => ⟨n', l, q⟩, ?_⟩
    exact q3 π3 G3 σ2 H3 _ hk3 (sk2.xt e3) ⟨fun σ' ρ' π' G' H' m' e' hk' sk' ⟨n', l, q⟩ => ⟨n', l, π', G', m', ρ', e23.trans e', hk', sk', q⟩, (wd.xt e23).rt, (wd.xt e23).nx, fun σ' ρ' π' G' H' m' e' hk' sk' ⟨n', l, q⟩ => ⟨n', l, π', G', m', ρ', e23.trans e', hk', sk', q⟩, (wd.xt e23).ex⟩
  | false =>
    rw [if_neg Bool.false_ne_true] at q3 ⊢
    exact (wd.xt e23).nx σ2 ρ2 π3 G3 H3 m3 Xt.refl hk3 (sk2.xt e3) q3
/-! ### what is walked -/
/-- a value that is a sequence, by the store -/
def seqOf (m : Mm) : MV → Option (List MV)
  | .d (.list ds) => some (ds.map .d)
  | .d (.tuple ds) => some (ds.map .d)
  | .r i => match m[i]? with
    | some (.lst xs) => some xs
    | _ => none
  | _ => none
/-- a list (true) or a tuple -/
def knd : MV → Bool
  | .d (.tuple _) => false
  | _ => true
theorem seq_real {v : V} {xs : List MV} (hk : Hk K π G H m) (rv : Rv K G π v x) (hx : seqOf m x = some xs) : ∃ a vs, v = .ref a ∧ SqA K (knd x) H a vs ∧ Rvs K G π vs xs := by
  cases x with
  | d y =>
    cases y with
    | list ds =>
      cases hx
      obtain ⟨a, vs, e, h1, h2⟩ := Da.lstI rv
      exact ⟨a, vs, e, SqL.of (hk.sub _ _ h1), data_rvs h2⟩
    | tuple ds =>
      cases hx
      obtain ⟨a, vs, e, h1, h2⟩ := Da.tupI rv
      exact ⟨a, vs, e, Same.tupq hk.sub h1, data_rvs h2⟩
    | none => cases hx
    | bool _ => cases hx
    | int _ => cases hx
    | str _ => cases hx
    | dict _ => cases hx
  | t _ => cases hx
  | s _ => cases hx
  | x _ => cases hx
  | e _ _ _ => cases hx
  | pr _ _ => cases hx
  | r i =>
    obtain ⟨a, ha, e⟩ := rv
    have hx : (match m[i]? with | some (.lst xs) => some xs | _ => none) = some xs := hx
    cases ho : m[i]? with
    | none => rw [ho] at hx; cases hx
    | some o =>
      cases o with
      | ins C fs => rw [ho] at hx; cases hx
      | dct _ => rw [ho] at hx; cases hx
      | dtp _ => rw [ho] at hx; cases hx
      | o _ => rw [ho] at hx; cases hx
      | xdo _ => rw [ho] at hx; cases hx
      | dn _ _ => rw [ho] at hx; cases hx
      | fz _ _ _ => rw [ho] at hx; cases hx
      | lst ys =>
        rw [ho] at hx
        cases hx
        obtain ⟨a', u, h1, h2, vs, eu, rs⟩ := hk.obj i _ ho
        rw [ha] at h1; cases h1
        subst eu
        exact ⟨a, vs, e, SqL.of h2, rs⟩
theorem paired_get {α β : Type} {F : α → β → Prop} : ∀ {as : List α} {bs : List β} {i : Nat} {a : α}, Paired F as bs → as[i]? = some a → ∃ b, bs[i]? = some b ∧ F a b
  | _, _, _, _, .nil, e => by simp at e
  | _, _, 0, _, .cons r _, e => by simp at e; subst e; exact ⟨_, rfl, r⟩
  | _, _, i + 1, a, .cons _ t, e => by
    obtain ⟨u, h1, h2⟩ := paired_get (i := i) (a := a) t (by simpa using e)
    exact ⟨u, by simpa using h1, h2⟩
theorem paired_getR {α β : Type} {F : α → β → Prop} : ∀ {as : List α} {bs : List β} {i : Nat} {b : β}, Paired F as bs → bs[i]? = some b → ∃ a, as[i]? = some a ∧ F a b
  | _, _, _, _, .nil, e => by simp at e
  | _, _, 0, _, .cons r _, e => by simp at e; subst e; exact ⟨_, rfl, r⟩
  | _, _, i + 1, a, .cons _ t, e => by
    obtain ⟨u, h1, h2⟩ := paired_getR (i := i) (b := a) t (by simpa using e)
    exact ⟨u, by simpa using h1, h2⟩
theorem Wi.mono {Q Q' : List MV → (Mm → Prop) → Mm → Prop} (h : Wi X K tg it ρ m Q) (q : ∀ xs gd m', Q xs gd m' → Q' xs gd m') : Wi X K tg it ρ m Q' := fun π G σ H R hk sk wr => h π G σ H R hk sk fun J xs gd π' G' H' m' e' hk' ok hq => wr J xs gd π' G' H' m' e' hk' ok (q _ _ _ hq)
/-- over a list (its items stand still) -/
theorem wi_l (F : Fam X P w K mg base N sc fv k) {Q : List MV → (Mm → Prop) → Mm → Prop} (h : We X K e ρ m fun x m1 => ∃ xs, seqOf m1 x = some xs ∧ knd x = true ∧ Q xs (fun m' => seqOf m' x = some xs) m1) : Wi X K tg e ρ m Q := fun π G σ H R hk sk wr => by
  refine ⟨iList K (TeOf X e), fun j => F.cK j ▸ pi_list (teOf X e j), h π G σ H _ hk sk fun v x π1 G1 H1 m1 e1 hk1 rv ⟨xs, hx, kx, q⟩ => ?_⟩
  obtain ⟨a, vs, ev, hs, rs⟩ := seq_real hk1 rv hx
  rw [kx] at hs
  refine ⟨a, ev, ⟨vs, hs⟩, wr (Itl K a) xs _ π1 G1 H1 m1 e1 hk1 (fun π2 G2 H2 m2 e2 hk2 gd => ?_) q⟩
  obtain ⟨a', vs2, ev2, hs2, rs2⟩ := seq_real hk2 (rv.xt e2) gd
  rw [ev] at ev2; cases ev2
  rw [kx] at hs2
  have l2 := Paired.length rs2
  refine ⟨fun i hi => ⟨vs2, vs2[i]'(by omega), hs2, by simp [show i < vs2.length by omega]⟩, ⟨vs2, hs2, by omega⟩, fun i v' H3 hi y => ?_⟩
  obtain ⟨eh, hy⟩ := y
  subst eh
  obtain ⟨b, hb, rb⟩ := paired_get rs2 (hy vs2 hs2)
  exact ⟨b, G2, hb, Xt.refl, hk2, rb⟩
/-- over a tuple -/
theorem wi_t (F : Fam X P w K mg base N sc fv k) {Q : List MV → (Mm → Prop) → Mm → Prop} (h : We X K e ρ m fun x m1 => ∃ ds, x = .d (.tuple ds) ∧ Q (ds.map .d) (fun _ => True) m1) : Wi X K tg e ρ m Q := fun π G σ H R hk sk wr => by
  refine ⟨iTup K (TeOf X e), fun j => F.cK j ▸ pi_tup (teOf X e j), h π G σ H _ hk sk fun v x π1 G1 H1 m1 e1 hk1 rv ⟨ds, ex, q⟩ => ?_⟩
  subst ex
  obtain ⟨a, vs, ev, hs, rs⟩ := Da.tupI rv
  have hs1 : SqT K H1 a vs := Same.tupq hk1.sub hs
  refine ⟨a, ev, ⟨vs, hs1⟩, wr (Itt K a) _ _ π1 G1 H1 m1 e1 hk1 (fun π2 G2 H2 m2 e2 hk2 gd => ?_) q⟩
  have hs2 : SqT K H2 a vs := Same.tupq hk2.sub (Same.tupq e2.g hs)
  have rs2 : Rvs K G2 π2 vs (ds.map .d) := data_rvs (daAll_mono e2.g rs)
  have l2 := Paired.length rs2
  refine ⟨fun i hi => ⟨vs, vs[i]'(by omega), hs2, by simp [show i < vs.length by omega]⟩, ⟨vs, hs2, by omega⟩, fun i v' H3 hi y => ?_⟩
  obtain ⟨eh, hy⟩ := y
  subst eh
  obtain ⟨b, hb, rb⟩ := paired_get rs2 (hy vs hs2)
  exact ⟨b, G2, hb, Xt.refl, hk2, rb⟩
/-- range -/
def rangeM (lo : Int) (n : Nat) : List MV := (List.range n).map fun i => .d (.int (lo + (i : Nat)))
theorem rangeM_len (lo : Int) (n : Nat) : (rangeM lo n).length = n := by simp [rangeM]
theorem rangeM_get {lo : Int} {n i : Nat} (h : i < n) : (rangeM lo n)[i]? = some (.d (.int (lo + (i : Nat)))) := by simp [rangeM, h]
theorem rangeM_some {lo : Int} {n i : Nat} {x : MV} (h : (rangeM lo n)[i]? = some x) : i < n ∧ x = .d (.int (lo + (i : Nat))) := by
  have hi : i < n := by
    by_cases z : i < n
    · exact z
    · rw [List.getElem?_eq_none (by rw [rangeM_len]; omega)] at h; cases h
  rw [rangeM_get hi] at h
  exact ⟨hi, (Option.some.inj h).symm⟩
theorem itok_range {lo : Int} {n : Nat} : ItOk K π G H (Itr lo n) (rangeM lo n) (fun _ => True) := fun π2 G2 H2 m2 e2 hk2 gd => by
  rw [rangeM_len]
  refine ⟨fun i hi => hi, Nat.le_refl _, fun i v H3 hi y => ?_⟩
  obtain ⟨eh, ey⟩ := y
  subst eh ey
  exact ⟨_, G2, rangeM_get hi, Xt.refl, hk2, Da.int _⟩
theorem wi_range1 (F : Fam X P w K mg base N sc fv k) {Q : List MV → (Mm → Prop) → Mm → Prop} (hm : mg "range" = none) (h : Wr X K [e] ρ m fun xs m1 => ∃ n : Int, xs = [.d (.int n)] ∧ -1000000 ≤ n ∧ n ≤ 1000000 ∧ Q (rangeM 0 n.toNat) (fun _ => True) m1) (hg : sc.names.lookup ("range" : Str) = some .globalImplicit := by rfl)
    (hs : ∀ env : Env, starEach [e] env = [(false, eval e env)] := by intro _; rfl) : Wi X K tg (.Call (.Name "range" p) [e] [] pos) ρ m Q := fun π G σ H R hk sk wr =>
  ⟨_, fun j => pi_range1 (F.gl hg j) (by rw [F.cM]; exact hm) (taOf X [e] j) (hs _), h π G σ H _ hk sk fun vs xs π1 G1 H1 m1 e1 hk1 rvs ⟨n, ex, n1, n2, q⟩ => by
    rw [ex] at rvs
    cases rvs with
    | cons r t =>
      cases t
      exact ⟨n, by rw [Da.intI r], by omega, by omega, wr _ _ _ π1 G1 H1 m1 e1 hk1 itok_range q⟩⟩
theorem wi_range2 (F : Fam X P w K mg base N sc fv k) {Q : List MV → (Mm → Prop) → Mm → Prop} (hm : mg "range" = none) (h : Wr X K [a, b] ρ m fun xs m1 => ∃ i j : Int, xs = [.d (.int i), .d (.int j)] ∧ -1000000 ≤ i ∧ i ≤ 1000000 ∧ -1000000 ≤ j ∧ j ≤ 1000000 ∧ Q (rangeM i (j - i).toNat) (fun _ => True) m1) (hg : sc.names.lookup ("range" : Str) = some .globalImplicit := by rfl)
    (hs : ∀ env : Env, starEach [a, b] env = [(false, eval a env), (false, eval b env)] := by intro _; rfl) (hs2 : ∀ env : Env, starEach [b] env = [(false, eval b env)] := by intro _; rfl) : Wi X K tg (.Call (.Name "range" p) [a, b] [] pos) ρ m Q := fun π G σ H R hk sk wr =>
  ⟨_, fun j => pi_range2 (F.gl hg j) (by rw [F.cM]; exact hm) (taOf X [a, b] j) (hs _) (hs2 _), h π G σ H _ hk sk fun vs xs π1 G1 H1 m1 e1 hk1 rvs ⟨i, j, ex, n1, n2, n3, n4, q⟩ => by
    rw [ex] at rvs
    cases rvs with
    | cons r t =>
      cases t with
      | cons r2 t2 =>
        cases t2
        exact ⟨i, j, by rw [Da.intI r, Da.intI r2], ⟨by omega, by omega, by omega, by omega⟩, wr _ _ _ π1 G1 H1 m1 e1 hk1 itok_range q⟩⟩
/-- zip of two sequences of data -/
theorem wi_zip (F : Fam X P w K mg base N sc fv k) {elts : List Expr} {kk : Nat} {tpos : Pos} {Q : List MV → (Mm → Prop) → Mm → Prop} (hm : mg "zip" = none)
    (h : Wr X K [a, b] ρ m fun zs m1 => ∃ x y ds es, zs = [x, y] ∧ seqOf m1 x = some (ds.map .d) ∧ seqOf m1 y = some (es.map .d) ∧ Q (List.zipWith (fun d e => MV.d (.tuple [d, e])) ds es) (fun m' => seqOf m' x = some (ds.map .d) ∧ seqOf m' y = some (es.map .d)) m1) (hg : sc.names.lookup ("zip" : Str) = some .globalImplicit := by rfl)
    (hs : ∀ env : Env, starEach [a, b] env = (false, eval a env) :: starEach [b] env := by intro _; rfl) (hpl : ∀ env : Env, (backTo pos (starEach [b] env)).any (·.1) = false := by intro _; rfl) : Wi X K (.Tuple elts kk tpos) (.Call (.Name "zip" p) [a, b] [] pos) ρ m Q := fun π G σ H R hk sk wr => by
  refine ⟨iZipW K (TaOf X [a, b]), fun j => F.cK j ▸ pi_zipW (F.gl hg j) (by rw [F.cM]; exact hm) (taOf X [a, b] j) (hs _) (hpl _), h π G σ H _ hk sk fun vs zs π1 G1 H1 m1 e1 hk1 rvs ⟨x, y, ds, es, ez, hx, hy, q⟩ => ?_⟩
  subst ez
  cases rvs with
  | cons rx t =>
    cases t with
    | cons ry t2 =>
      cases t2
      obtain ⟨a1, vs1, ev1, hs1, rs1⟩ := seq_real hk1 rx hx
      obtain ⟨a2, vs2, ev2, hs2, rs2⟩ := seq_real hk1 ry hy
      subst ev1 ev2
      refine ⟨knd x, knd y, a1, a2, vs1, vs2, rfl, hs1, hs2, wr _ _ _ π1 G1 H1 m1 e1 hk1 (fun π2 G2 H2 m2 e2 hk2 gd => ?_) q⟩
      obtain ⟨b1, ws1, f1, gs1, ts1⟩ := seq_real hk2 (rx.xt e2) gd.1
      obtain ⟨b2, ws2, f2, gs2, ts2⟩ := seq_real hk2 (ry.xt e2) gd.2
      cases f1; cases f2
      have l1 := Paired.length ts1
      have l2 := Paired.length ts2
      simp only [List.length_map] at l1 l2
      have ln : (List.zipWith (fun d e => MV.d (.tuple [d, e])) ds es).length = min ds.length es.length := by simp
      rw [ln]
      refine ⟨fun i hi => ⟨ws1, ws2, ws1[i]'(by omega), ws2[i]'(by omega), gs1, gs2, by simp [show i < ws1.length by omega], by simp [show i < ws2.length by omega]⟩, ⟨ws1, ws2, gs1, gs2, by omega, by omega, by omega⟩, fun i v H3 hi yl => ?_⟩
      obtain ⟨T, x', y', ev, hT, eH, g1, g2⟩ := yl
      subst ev eH
      obtain ⟨c1, hc1, r1⟩ := paired_get ts1 (g1 ws1 gs1)
      obtain ⟨c2, hc2, r2⟩ := paired_get ts2 (g2 ws2 gs2)
      rw [List.getElem?_map] at hc1 hc2
      cases hd1 : ds[i]? with
      | none => rw [hd1] at hc1; cases hc1
      | some d1 =>
        cases hd2 : es[i]? with
        | none => rw [hd2] at hc2; cases hc2
        | some d2 =>
          rw [hd1] at hc1; rw [hd2] at hc2
          cases hc1; cases hc2
          have gT := hk2.sub.free hT
          exact ⟨.d (.tuple [d1, d2]), upd G2 T (.tup [x', y']), by simp [List.getElem?_zipWith, hd1, hd2], Xt.new hT gT, hk2.new hT, Da.tup (SqT.of upd_same) (.cons (da_mono (same_new gT) r1) (.cons (da_mono (same_new gT) r2) .nil))⟩
def enumD (ds : List PyData) : List MV := (List.range ds.length).map fun i => .d (.tuple [.int (i : Nat), ds.getD i .none])
theorem enumD_get {ds : List PyData} {i : Nat} {d : PyData} (h : ds[i]? = some d) : (enumD ds)[i]? = some (.d (.tuple [.int (i : Nat), d])) := by
  have hi := (List.getElem?_eq_some_iff.mp h).1
  have e := (List.getElem?_eq_some_iff.mp h).2
  simp [enumD, hi, List.getD, e]
theorem wi_enum (F : Fam X P w K mg base N sc fv k) {elts : List Expr} {kk : Nat} {tpos : Pos} {Q : List MV → (Mm → Prop) → Mm → Prop} (hm : mg "enumerate" = none)
    (h : Wr X K [a] ρ m fun zs m1 => ∃ x ds, zs = [x] ∧ seqOf m1 x = some (ds.map .d) ∧ Q (enumD ds) (fun m' => seqOf m' x = some (ds.map .d)) m1) (hg : sc.names.lookup ("enumerate" : Str) = some .globalImplicit := by rfl)
    (hs : ∀ env : Env, starEach [a] env = [(false, eval a env)] := by intro _; rfl) : Wi X K (.Tuple elts kk tpos) (.Call (.Name "enumerate" p) [a] [] pos) ρ m Q := fun π G σ H R hk sk wr => by
  refine ⟨iEnumW K (TaOf X [a]), fun j => F.cK j ▸ pi_enumW (F.gl hg j) (by rw [F.cM]; exact hm) (taOf X [a] j) (hs _), h π G σ H _ hk sk fun vs zs π1 G1 H1 m1 e1 hk1 rvs ⟨x, ds, ez, hx, q⟩ => ?_⟩
  subst ez
  cases rvs with
  | cons rx t =>
    cases t
    obtain ⟨a1, vs1, ev1, hs1, rs1⟩ := seq_real hk1 rx hx
    subst ev1
    refine ⟨knd x, a1, vs1, rfl, hs1, wr _ _ _ π1 G1 H1 m1 e1 hk1 (fun π2 G2 H2 m2 e2 hk2 gd => ?_) q⟩
    obtain ⟨b1, ws1, f1, gs1, ts1⟩ := seq_real hk2 (rx.xt e2) gd
    cases f1
    have l1 := Paired.length ts1
    simp only [List.length_map] at l1
    have ln : (enumD ds).length = ds.length := by simp [enumD]
    rw [ln]
    refine ⟨fun i hi => ⟨ws1, ws1[i]'(by omega), gs1, by simp [show i < ws1.length by omega]⟩, ⟨ws1, gs1, by omega⟩, fun i v H3 hi yl => ?_⟩
    obtain ⟨T, x', ev, hT, eH, g1⟩ := yl
    subst ev eH
    obtain ⟨c1, hc1, r1⟩ := paired_get ts1 (g1 ws1 gs1)
    rw [List.getElem?_map] at hc1
    cases hd1 : ds[i]? with
    | none => rw [hd1] at hc1; cases hc1
    | some d1 =>
      rw [hd1] at hc1
      cases hc1
      have gT := hk2.sub.free hT
      exact ⟨_, upd G2 T (.tup [.int (i : Nat), x']), enumD_get hd1, Xt.new hT gT, hk2.new hT, Da.tup (SqT.of upd_same) (.cons (Da.int _) (.cons (da_mono (same_new gT) r1) .nil))⟩
end
end Wn
set_option Elab.async false
set_option linter.all false
set_option maxRecDepth 100000
set_option maxHeartbeats 2000000
set_option autoImplicit false
namespace Wn
open PySem L2
section
variable {ι : Type} {X : ι → Cx} {P : Program} {w : World} {K : PySem.W.Frag} {mg : Str → Option Value} {base : Heap} {N : List Str} {sc : Scope} {fv : Str → Bool} {k : Nat} {ρ : Ro} {m : Mm} {Q Q' : QV} {D : Ed} {a b c e tg it elt : Expr} {pos p : Pos} {x y z : MV} {st : Stmt} {rest body : List Stmt}
variable {π π1 : List Addr} {G H G1 H1 : Hp}
/-! ### a comprehension's block -/
abbrev Bi (ι : Type) : Type := ι × Shared × Hp × Addr × List (Str × Addr) × List Addr
def Blk (X : ι → Cx) (scope : Scope) : Bi ι → Cx := fun q => (X q.1).blk q.2.1 q.2.2.1 scope (compEnvC scope q.2.2.2.2.1 q.2.2.2.1 (X q.1).env) q.2.2.2.2.2
theorem Fam.blk (F : Fam X P w K mg base N sc fv k) (scope : Scope) : Fam (Blk X scope) P w K mg base N (relS scope sc) (fun x => scope.names.lookup x == some .cell) k where
  nd := F.nd
  cP := fun q => F.cP q.1
  cW := fun q => F.cW q.1
  cK := fun q => F.cK q.1
  cM := fun q => F.cM q.1
  cB := fun q => F.cB q.1
  cN := fun q => F.cN q.1
  cS := fun q => by
    have e : (Blk X scope q).env.scope = relS scope (X q.1).env.scope := rfl
    rw [e, F.cS]
  calm := fun q => F.calm q.1
  room := fun q => F.room q.1
  px := fun q => PassesOwn.never
  cF := fun q => rfl
def wipeM (ρ : Ro) : List Nat → Ro
  | [] => ρ
  | v :: vs => (wipeM ρ vs).set v none
theorem Sk.clear {σ : St} (h : Sk K π G σ ρ) (i : Nat) : Sk K π G (σ.set i none) (ρ.set i none) := by
  refine ⟨by simp [h.len], fun j y q => ?_⟩
  by_cases e : i = j
  · subst e
    by_cases z : i < ρ.length
    · rw [List.getElem?_set_self z] at q; cases q
    · rw [List.getElem?_eq_none (by simp; omega)] at q; cases q
  · rw [List.getElem?_set_ne e] at q ⊢
    exact h.get j y q
theorem Sk.wipe {σ : St} (h : Sk K π G σ ρ) : ∀ vs : List Nat, Sk K π G (wipe σ vs) (wipeM ρ vs)
  | [] => h
  | v :: vs => (h.wipe vs).clear v
theorem wipe_eq {σ σ2 : St} : ∀ (vs : List Nat), σ2.length = σ.length → (∀ k, k ∉ vs → σ2[k]? = σ[k]?) → wipe σ2 vs = wipe σ vs
  | [], _, h => List.ext_getElem? fun k => h k (by simp)
  | v :: vs, hl, h => by
    unfold wipe
    apply List.ext_getElem?
    intro k
    by_cases e : v = k
    · subst e
      by_cases z : v < σ.length
      · rw [List.getElem?_set_self (by rw [wipe_length, hl]; exact z), List.getElem?_set_self (by rw [wipe_length]; exact z)]
      · rw [List.getElem?_eq_none (by simp [wipe_length]; omega), List.getElem?_eq_none (by simp [wipe_length]; omega)]
    · rw [List.getElem?_set_ne e, List.getElem?_set_ne e]
      have key : ∀ (us : List Nat) (τ : St) (j : Nat), (L2.wipe τ us)[j]? = if j ∈ us then (if j < τ.length then some none else none) else τ[j]? := by
        intro us
        induction us with
        | nil => intro τ j; simp [L2.wipe]
        | cons u us ih =>
          intro τ j
          unfold L2.wipe
          by_cases q : u = j
          · subst q
            by_cases z : u < τ.length
            · rw [List.getElem?_set_self (by rw [wipe_length]; exact z)]; simp [z]
            · rw [List.getElem?_eq_none (by simp [wipe_length]; omega)]; simp [z]
          · rw [List.getElem?_set_ne q, ih]
            have : (j ∈ u :: us) ↔ (j ∈ us) := by simp [Ne.symm q]
            simp [this]
      rw [key, key]
      by_cases q : k ∈ vs
      · rw [if_pos q, if_pos q, hl]
      · rw [if_neg q, if_neg q]
        exact h k (by simp [q, Ne.symm e])
theorem wipe_get {σ : St} {vs : List Nat} {k : Nat} (h : k ∉ vs) : (wipe σ vs)[k]? = σ[k]? := by
  induction vs with
  | nil => rfl
  | cons v vs ih =>
    unfold wipe
    rw [List.getElem?_set_ne (by intro z; exact h (by simp [z]))]
    exact ih (fun z => h (List.mem_cons_of_mem _ z))
theorem wts_nil {Q : Bool → Mm → Prop} (q : Q true m) : Wts X K [] ρ m Q := fun π G σ H R hk sk wb => ⟨_, fun _ => pts_nil, wb true π G H m Xt.refl hk q⟩
theorem wts_one {Q : Bool → Mm → Prop} (h : Wt X K c ρ m Q) : Wts X K [c] ρ m Q := fun π G σ H R hk sk wb => ⟨_, fun j => pts_one (ttOf X c j), h π G σ H R hk sk wb⟩
theorem Hk.other (h : Hk K π G H m) {p : Addr} {u : HO} (hn : p ∉ π) (hg : G p = none) : Hk K π G (upd H p u) m := by
  refine ⟨fun a o e => ?_, h.len, h.nd, h.hid, fun i o q => ?_⟩
  · rw [upd_ne (fun z => by rw [z, hg] at e; cases e)]; exact h.sub a o e
  · obtain ⟨a, w, h1, h2, h3⟩ := h.obj i o q
    exact ⟨a, w, h1, by rw [upd_ne (fun z => hn (by rw [← z]; exact List.mem_of_getElem? h1))]; exact h2, h3⟩
theorem Xt.other {π2 : List Addr} {G2 H2 : Hp} {p : Addr} {u : HO} (h : Xt π G H π2 G2 H2) (hp : H p = none) : Xt π G H π2 G2 (upd H2 p u) :=
  ⟨h.g, h.p, fun a o e na => by rw [upd_ne (ne_of_none e hp)]; exact h.fr a o e na, fun a e => by
    by_cases z : a = p
    · subst z; rw [upd_same]; simp
    · rw [upd_ne z]; exact h.al a e, h.n⟩
/-- [elt for tg in it if ..]: I by the turn, what is made so far, the store -/
def LcW (X : ι → Cx) (K : PySem.W.Frag) (scope : Scope) (own : List (Str × Nat)) (tg it : Expr) (ifs : List Expr) (elt : Expr) (ρ : Ro) (m : Mm) (Q : QV) : Prop :=
  Wi X K tg it ρ m fun xs gd m1 => xs.length ≤ 100000 ∧ ∃ I : Nat → List MV → Mm → Prop, I 0 [] m1 ∧ (∀ i acc m', i ≤ xs.length → I i acc m' → gd m') ∧
    (∀ i x acc m', xs[i]? = some x → I i acc m' → Wg (Blk X scope) K (fun k => k ∈ own.map (·.2)) tg x (wipeM ρ (own.map (·.2))) m' fun ρ2 m2 => Wts (Blk X scope) K ifs ρ2 m2 fun b m3 =>
      if b = true then We (Blk X scope) K elt ρ2 m3 fun y m4 => I (i + 1) (acc ++ [y]) m4 else I (i + 1) acc m3) ∧ ∀ acc m', I xs.length acc m' → NewL acc m' Q
theorem lc_reads {scope : Scope} {own : List (Str × Nat)} {ifs : List Expr} {σ : St} {R : VK} (h : LcW X K scope own tg it ifs elt ρ m Q) (hk : Hk K π G H m) (sk : Sk K π G σ ρ) (wv : Wv K π G H Q R) :
    tLc (TiOf X tg it) (TgOf (Blk X scope) tg) (TtsOf (Blk X scope) ifs) (TeOf (Blk X scope) elt) (own.map (·.2)) σ H R := by
  refine h π G σ H _ hk sk fun J xs gd π1 G1 H1 m1 e1 hk1 ok ⟨hz, I, h0, hg, hb, hd⟩ D hD => ?_
  have wv1 := wv.xt e1
  have sk1 := sk.xt e1
  have gD := hk1.sub.free hD
  have nD := hk1.nin hD
  refine ⟨fun i mm H' => mm = xs.length - i ∧ i ≤ xs.length ∧ ∃ π' G' m' acc vs, Xt π1 G1 H1 π' G' H' ∧ Hk K π' G' H' m' ∧ H' D = some (.lst vs) ∧ G' D = none ∧ D ∉ π' ∧ Rvs K G' π' vs acc ∧ vs.length ≤ i ∧ I i acc m',
    ⟨_, rfl, Nat.zero_le _, π1, G1, m1, [], [], Xt.refl.other hD, hk1.other nD gD, upd_same, gD, nD, .nil, Nat.le_refl _, h0⟩, ?_⟩
  rintro i mm H2 ⟨rfl, hi, π2, G2, m2, acc, vs, e2, hk2, d2, g2, n2, r2, l2, hI⟩
  obtain ⟨go, stop, yl⟩ := ok π2 G2 H2 m2 e2 hk2 (hg i acc m2 hi hI)
  by_cases hlt : i < xs.length
  · refine .inr ⟨go i hlt, fun H' => ∃ π' G' m' acc vs, Xt π1 G1 H1 π' G' H' ∧ Hk K π' G' H' m' ∧ H' D = some (.lst vs) ∧ G' D = none ∧ D ∉ π' ∧ Rvs K G' π' vs acc ∧ vs.length ≤ i + 1 ∧ I (i + 1) acc m', fun H' q => ⟨xs.length - (i + 1), by omega, rfl, hlt, q⟩, fun v H3 y => ?_⟩
    obtain ⟨x, G3, hx, e3, hk3, rx⟩ := yl i v H3 hlt y
    refine hb i x acc m2 hx hI π2 G3 _ H3 _ v hk3 (((sk1.xt e2).wipe _).xt e3) rx fun σ4 ρ4 π4 G4 H4 m4 e4 hk4 sk4 l4 f4 q4 => ⟨?_, ?_⟩
    · refine wipe_eq _ (by rw [l4, wipe_length]) fun j hj => ?_
      rw [f4 j hj, wipe_get hj]
    · refine q4 π4 G4 σ4 H4 _ hk4 sk4 fun b π5 G5 H5 m5 e5 hk5 q5 => ?_
      have e25 := (e3.trans e4).trans e5
      have keep : ∀ {π' : List Addr} {G' H' : Hp}, Xt π2 G2 H2 π' G' H' → H' D = some (.lst vs) ∧ G' D = none ∧ D ∉ π' := fun {π' G' H'} e => by
        refine ⟨e.fr D _ d2 n2, e.n D _ d2 n2 (fun _ z => by cases z) g2, fun hm => ?_⟩
        obtain ⟨τ, et, ft⟩ := e.p
        rw [et] at hm
        rcases List.mem_append.mp hm with hm | hm
        · exact n2 hm
        · rw [ft D hm] at d2; cases d2
      cases b with
      | true =>
        rw [if_pos rfl] at q5 ⊢
        refine q5 π5 G5 σ4 H5 _ hk5 (sk4.xt e5) fun u y π6 G6 H6 m6 e6 hk6 ru q6 => ?_
        have e26 := e25.trans e6
        obtain ⟨k1, k2, k3⟩ := keep e26
        refine ⟨vs, k1, Nat.lt_of_le_of_lt l2 (Nat.lt_of_lt_of_le hlt (Nat.le_trans hz (by decide))), π6, G6, m6, acc ++ [y], vs ++ [u], (e2.trans e26).other hD, hk6.other k3 k2, upd_same, k2, k3, Paired.snoc (Rvs.xt r2 e26) ru, by simp; omega, q6⟩
      | false =>
        rw [if_neg Bool.false_ne_true] at q5 ⊢
        obtain ⟨k1, k2, k3⟩ := keep e25
        exact ⟨π5, G5, m5, acc, vs, e2.trans e25, hk5, k1, k2, k3, Rvs.xt r2 e25, by omega, q5⟩
  · have e : i = xs.length := by omega
    subst e
    refine .inl ⟨stop, newl_at (K := K) (R := R) hk2 d2 n2 g2 r2 (hd acc m2 hI) fun x π' G' m' sg ng ep hk' rx hq => ?_⟩
    refine wv1 _ x π' G' H2 m' ⟨e2.g.trans sg, ?_, e2.fr, e2.al, fun a u h1 hp nt h2 => ng a (fun z => by rw [z, hD] at h1; cases h1) (e2.n a u h1 hp nt h2)⟩ hk' rx hq
    obtain ⟨τ, et, ft⟩ := e2.p
    rcases ep with ep | ep
    · exact ⟨τ, by rw [ep, et], ft⟩
    · refine ⟨τ ++ [D], by rw [ep, et, List.append_assoc], fun a ha => ?_⟩
      rcases List.mem_append.mp ha with ha | ha
      · exact ft a ha
      · simp at ha; rw [ha]; exact hD
theorem blk_ok (F : Fam X P w K mg base N sc fv k) {scope : Scope} {own : List (Str × Nat)} (h : blkC N sc scope own = true) (j : ι) : BlkOk (X j).N (X j).env.scope scope own := by
  rw [F.cN, F.cS]
  exact blkOk_by h
theorem we_lc (F : Fam X P w K mg base N sc fv k) {scope : Scope} (own : List (Str × Nat)) {ifs : List Expr} (h : LcW X K scope own tg it ifs elt ρ m Q) (ok : blkC N sc scope own = true := by decide +kernel)
    (hs : ∀ (env : Env) x, foldedSetIterable it env x = pure x := by intro _ _; rfl) : We X K (.ListComp elt [⟨tg, it, ifs, 0⟩] scope pos) ρ m Q := fun π G σ H R hk sk wv =>
  ⟨_, fun j => pe_lc (F.calm j) (by rw [F.cN]; exact F.nd) (tiOf X tg it j) (blk_ok F ok j) (fun s H C cl fp => tgOf (Blk X scope) tg (j, s, H, C, cl, fp)) (fun s H C cl fp => ttsOf (Blk X scope) ifs (j, s, H, C, cl, fp)) (fun s H C cl fp => teOf (Blk X scope) elt (j, s, H, C, cl, fp)) (hs _), lc_reads h hk sk wv⟩
theorem ws_setLc (F : Fam X P w K mg base N sc fv k) (i : Nat) {scope : Scope} (own : List (Str × Nat)) {ifs : List Expr} {nm : Str} {py spos : Pos} (h : LcW X K scope own tg it ifs elt ρ m fun x m' => D.nx (ρ.set i (some x)) m') (ok : blkC N sc scope own = true := by decide +kernel)
    (hN : N[i]? = some nm := by rfl) (hl : sc.names.lookup nm = some .local := by rfl) (hk0 : sc.kind = .function := by rfl) (hln : (py.line == pos.line) = true := by rfl) (ha : (scope.names.any fun (n, k) => n == nm && (k == .local || k == .cell)) = false := by decide +kernel)
    (hs : ∀ (env : Env) x, foldedSetIterable it env x = pure x := by intro _ _; rfl) : Ws1 X K (.Assign [.Name nm py] (.ListComp elt [⟨tg, it, ifs, 0⟩] scope pos) spos) ρ m D := fun π G σ H D' hk sk wd =>
  ⟨_, fun j => ps_setLc (i := i) (F.calm j) (by rw [F.cN]; exact F.nd) (by rw [F.cN]; exact hN) (by rw [F.cS]; exact hl) (sw_true (by rw [F.cS]; exact hk0) (by rw [F.cS]; exact hl) hln ha) (tiOf X tg it j) (blk_ok F ok j)
      (fun s H C cl fp => tgOf (Blk X scope) tg (j, s, H, C, cl, fp)) (fun s H C cl fp => ttsOf (Blk X scope) ifs (j, s, H, C, cl, fp)) (fun s H C cl fp => teOf (Blk X scope) elt (j, s, H, C, cl, fp)) (hs _),
    lc_reads h hk sk fun v x π1 G1 H1 m1 e1 hk1 rv q1 => wd.nx _ _ π1 G1 H1 m1 e1 hk1 ((sk.xt e1).set rv i) q1⟩
end
/-! ### defs -/
/-- what may be forgotten at a def's end: the store's younger part; a list that the def made goes out as data -/
def Ret (n : Nat) (Q : QV) (x : MV) (m' : Mm) : Prop :=
  Q x m' ∨ ((∀ o ∈ m'.take n, o.sc n) ∧ x.sc n ∧ Q x (m'.take n)) ∨ (∃ i ds, x = .r i ∧ n ≤ i ∧ m'[i]? = some (.lst (ds.map .d)) ∧ (∀ o ∈ m'.take n, o.sc n) ∧ Q (.d (.list ds)) (m'.take n))
def EndF (n : Nat) (Q : QV) : Ed := { nx := fun _ m' => Ret n Q (.d .none) m', rt := Ret n Q }
def startM (N : List Str) (xs : List MV) : Ro := xs.map some ++ List.replicate (N.length - xs.length) none
section
variable {P : Program} {w : World} {K : PySem.W.Frag} {mg : Str → Option Value} {base : Heap} {π : List Addr} {G H : Hp} {m : Mm} {Q : QV} {R : VK}
theorem ret_wish (hk : Hk K π G H m) (wv : Wv K π G H Q R) : Wv K π G H (Ret m.length Q) R := fun v x π' G' H' m' e hk' rv q => by
  obtain ⟨τ, et, ft⟩ := e.p
  have tk : π'.take m.length = π := by rw [et, ← hk.len]; simp
  rcases q with q | ⟨s, sx, q⟩ | ⟨i, ds, ex, hi, ho, s, q⟩
  · exact wv v x π' G' H' m' e hk' rv q
  · have h2 := hk'.drop s
    have r2 := rv.cut sx
    rw [tk] at h2 r2
    exact wv v x π G' H' _ ⟨e.g, ⟨[], by simp, by simp⟩, e.fr, e.al, e.n⟩ h2 r2 q
  · subst ex
    have h2 := hk'.drop s
    rw [tk] at h2
    obtain ⟨a, ha, rfl⟩ := rv
    obtain ⟨a', u, h1, h3, vs, eu, rs⟩ := hk'.obj i _ ho
    rw [ha] at h1; cases h1
    subst eu
    have hat : a ∈ τ := by
      rw [et, List.getElem?_append_right (by rw [hk.len]; exact hi)] at ha
      exact List.mem_of_getElem? ha
    have na : H a = none := ft a hat
    have nin : a ∉ π := hk.nin na
    have ga : G' a = none := hk'.hid a (List.mem_of_getElem? ha)
    refine wv _ (.d (.list ds)) π (upd G' a (.lst vs)) H' _ ⟨e.g.trans (same_new ga), ⟨[], by simp, by simp⟩, e.fr, e.al, fun b u hb hp nt hg => ?_⟩ (h2.seal h3 nin ga) (Da.lst upd_same (daAll_mono (same_new ga) (rvs_data rs))) q
    rw [upd_ne (fun z => by rw [z, na] at hb; cases hb)]
    exact e.n b u hb hp nt hg
theorem sk_start {N : List Str} : ∀ {vs : List V} {xs : List MV}, Rvs K G π vs xs → Sk K π G (L2.start N vs) (startM N xs) := fun {vs xs} h => by
  have l := Paired.length h
  refine ⟨by simp [L2.start, startM, l], fun i x q => ?_⟩
  unfold startM at q
  by_cases hi : i < xs.length
  · rw [List.getElem?_append_left (by simpa using hi), List.getElem?_map] at q
    cases hx : xs[i]? with
    | none => rw [hx] at q; cases q
    | some y =>
      rw [hx] at q
      cases q
      obtain ⟨v, hv, rv⟩ := paired_getR h hx
      refine ⟨v, ?_, rv⟩
      unfold L2.start
      rw [List.getElem?_append_left (by simp; omega), List.getElem?_map, hv]
      rfl
  · rw [List.getElem?_append_right (by simpa using hi), List.getElem?_replicate] at q
    split at q <;> cases q
theorem takes_nox {X : Cx} {W : WX} (h : ∀ c d σ H, ¬ W c d σ H) : Takes X.nox W := fun u s' ⟨a, B, sI, pins, σ, H, cls, d, e, I, nb, up, sky, na, os, ag, w⟩ => h _ _ _ _ w
theorem fn_m {nm qual : Str} {st : Stmt} {f : Addr} {fd : FuncData} {N ps : List Str} {k : Nat} {T : List MV → Mm → QV → Prop} (F : Fun K nm qual st f fd) (S : FnScope N ps (defScope st)) (len : ∀ xs m Q, T xs m Q → xs.length = ps.length)
    (body : ∀ (X : Unit → Cx), Fam X P w K mg base N (defScope st) (fun _ => true) k → ∀ xs m Q, T xs m Q → Scd m → Ws X K (defBody st) (startM N xs) m (EndF m.length Q)) : FnOk P w K mg base CX0 (k + 1) f fd ps (spM K T) := by
  refine F.ok S (fun vs H Q E h => ?_) (fun cdv A outer s H vs Q E hr h => ?_)
  · obtain ⟨π, G, m, xs, Qm, hk, rvs, hT, _⟩ := h
    rw [Paired.length rvs]
    exact len xs m Qm hT
  · obtain ⟨π, G, m, xs, Qm, hk, rvs, hT, wv⟩ := h
    have fam : Fam (fun _ : Unit => (cxOf CX0 P w K mg base N qual (defScope st) f cdv A outer s H E).nox) P w K mg base N (defScope st) (fun _ => true) k :=
      ⟨S.nd, fun _ => rfl, fun _ => rfl, fun _ => rfl, fun _ => rfl, fun _ => rfl, fun _ => rfl, fun _ => rfl, fun _ => rfl, fun _ => hr, fun _ => PassesOwn.never, fun _ => rfl⟩
    obtain ⟨t, pt, ht⟩ := body _ fam xs m Qm hT hk.scd π G (L2.start N vs) H { nx := fun _ H' => Q .non H', rt := Q } hk (sk_start rvs)
      ⟨fun σ' ρ' π' G' H' m' e hk' _ q => ret_wish hk wv .non (.d .none) π' G' H' m' e hk' Da.non q, ret_wish hk wv, fun _ _ _ _ _ _ _ _ _ q => q.elim, fun _ _ _ _ _ _ _ _ _ q => q.elim, fun _ => takes_nox fun _ _ _ _ w => let ⟨_, _, _, _, _, _, _, _, _, _, _, _, z⟩ := w; z⟩
    exact ⟨t, pt (), ht⟩
end
end Wn
set_option Elab.async false
set_option linter.all false
set_option maxRecDepth 100000
set_option maxHeartbeats 2000000
set_option autoImplicit false
namespace Wn
open PySem L2
/-- a value as data, by the store -/
def allD : List MV → Option (List PyData)
  | [] => some []
  | .d x :: r => (allD r).map (x :: ·)
  | _ :: _ => none
def datOf (m : Mm) : MV → Option PyData
  | .d x => some x
  | .r i => match m[i]? with
    | some (.lst xs) => (allD xs).map .list
    | _ => none
  | .t _ => none
  | .s _ => none
  | .x _ => none
  | .e _ _ _ => none
  | .pr _ _ => none
theorem allD_map : ∀ ds : List PyData, allD (ds.map .d) = some ds
  | [] => rfl
  | d :: ds => by show (allD (ds.map .d)).map (d :: ·) = _; rw [allD_map ds]; rfl
theorem allD_some : ∀ {xs : List MV} {ds : List PyData}, allD xs = some ds → xs = ds.map .d
  | [], ds, h => by cases h; rfl
  | .d x :: r, ds, h => by
    have h : (allD r).map (x :: ·) = some ds := h
    cases e : allD r with
    | none => rw [e] at h; cases h
    | some es => rw [e] at h; cases h; rw [allD_some e]; rfl
  | .r _ :: _, _, h => by cases h
  | .t _ :: _, _, h => by cases h
  | .s _ :: _, _, h => by cases h
  | .x _ :: _, _, h => by cases h
  | .e _ _ _ :: _, _, h => by cases h
  | .pr _ _ :: _, _, h => by cases h
section
variable {K : PySem.W.Frag} {π : List Addr} {G H : Hp} {m : Mm} {v : V} {x : MV}
theorem dat_real {d : PyData} (hk : Hk K π G H m) (rv : Rv K G π v x) (hx : datOf m x = some d) : Da K H v d := by
  cases x with
  | d y => cases hx; exact da_mono hk.sub rv
  | t _ => cases hx
  | s _ => cases hx
  | x _ => cases hx
  | e _ _ _ => cases hx
  | pr _ _ => cases hx
  | r i =>
    obtain ⟨a, ha, e⟩ := rv
    have hx : (match m[i]? with | some (.lst xs) => (allD xs).map .list | _ => none) = some d := hx
    cases ho : m[i]? with
    | none => rw [ho] at hx; cases hx
    | some o =>
      cases o with
      | ins C fs => rw [ho] at hx; cases hx
      | dct _ => rw [ho] at hx; cases hx
      | dtp _ => rw [ho] at hx; cases hx
      | o _ => rw [ho] at hx; cases hx
      | xdo _ => rw [ho] at hx; cases hx
      | dn _ _ => rw [ho] at hx; cases hx
      | fz _ _ _ => rw [ho] at hx; cases hx
      | lst ys =>
        rw [ho] at hx
        have hx : (allD ys).map .list = some d := hx
        cases hy : allD ys with
        | none => rw [hy] at hx; cases hx
        | some es =>
          rw [hy] at hx; cases hx
          have ey := allD_some hy
          subst ey
          obtain ⟨a', u, h1, h2, vs, eu, rs⟩ := hk.obj i _ ho
          rw [ha] at h1; cases h1
          subst eu e
          exact Da.lst h2 (daAll_mono hk.sub (rvs_data rs))
end
section
variable {ι : Type} {X : ι → Cx} {P : Program} {w : World} {K : PySem.W.Frag} {mg : Str → Option Value} {base : Heap} {N : List Str} {sc : Scope} {fv : Str → Bool} {k : Nat} {ρ : Ro} {m : Mm} {Q Q' : QV} {D : Ed} {a b c e tg it elt : Expr} {pos p : Pos} {x y z : MV}
theorem we_ty (F : Fam X P w K mg base N sc fv k) {nm : Str} {T : String} (hm : mg nm = none) (hv : bootBuiltins nm = some (.type T)) (q : Q (.t T) m) (hg : sc.names.lookup nm = some .globalImplicit := by rfl) (hn : nm ≠ "__name__" := by decide) (hd : (nm == ("__debug__" : Str)) = false := by decide) : We X K (.Name nm pos) ρ m Q := fun π G σ H R hk sk wv =>
  ⟨_, fun j => pe_bltn (v := .ty T) (F.gl hg j) (by rw [F.cM]; exact hm) hv rfl hn hd, wv (.ty T) (.t T) π G H m Xt.refl hk rfl q⟩
/-! ints -/
theorem opw_I0 {f : Value → Value → Sem Value} {g : Int → Int → V} {i j : Int} {d : PyData} (h : ∀ j, OpR (X j) f (rI0 g)) (hd : ∀ G, Da K G (g i j) d) (q : Q (.d d) m) : OpW X K f (.d (.int i)) (.d (.int j)) m Q := fun π G H R u v hk ru rv wv =>
  ⟨_, h, i, j, Da.intI ru, Da.intI rv, wv _ (.d d) π G H m Xt.refl hk (hd G) q⟩
theorem opw_I {f : Value → Value → Sem Value} {C : Int → Int → Prop} {g : Int → Int → V} {i j : Int} {d : PyData} (h : ∀ j, OpR (X j) f (rI C g)) (hc : C i j) (hd : ∀ G, Da K G (g i j) d) (q : Q (.d d) m) : OpW X K f (.d (.int i)) (.d (.int j)) m Q := fun π G H R u v hk ru rv wv =>
  ⟨_, h, i, j, Da.intI ru, Da.intI rv, hc, wv _ (.d d) π G H m Xt.refl hk (hd G) q⟩
theorem o_add {i j : Int} (q : Q (.d (.int (i + j))) m) : OpW X K (binaryOp .Add) (.d (.int i)) (.d (.int j)) m Q := opw_I0 (fun _ => op_add) (fun _ => .int _) q
theorem o_sub {i j : Int} (q : Q (.d (.int (i - j))) m) : OpW X K (binaryOp .Sub) (.d (.int i)) (.d (.int j)) m Q := opw_I0 (fun _ => op_sub) (fun _ => .int _) q
theorem o_mul {i j : Int} (hc : CMul i j) (q : Q (.d (.int (i * j))) m) : OpW X K (binaryOp .Mult) (.d (.int i)) (.d (.int j)) m Q := opw_I (fun _ => op_mul) hc (fun _ => .int _) q
theorem o_mod {i j : Int} (hc : 0 < j) (q : Q (.d (.int (i % j))) m) : OpW X K (binaryOp .Mod) (.d (.int i)) (.d (.int j)) m Q := opw_I (fun _ => op_mod) hc (fun _ => .int _) q
theorem o_fdiv {i j : Int} (hc : CDiv i j) (q : Q (.d (.int (i / j))) m) : OpW X K (binaryOp .FloorDiv) (.d (.int i)) (.d (.int j)) m Q := opw_I (fun _ => op_fdiv) hc (fun _ => .int _) q
theorem o_pow {i j : Int} (hc : CPow i j) (q : Q (.d (.int (i ^ j.toNat))) m) : OpW X K (binaryOp .Pow) (.d (.int i)) (.d (.int j)) m Q := opw_I (fun _ => op_pow) hc (fun _ => .int _) q
theorem o_lt {i j : Int} (q : Q (.d (.bool (decide (i < j)))) m) : OpW X K (compareOp .Lt) (.d (.int i)) (.d (.int j)) m Q := opw_I0 (fun _ => op_lt) (fun _ => .bl _) q
theorem o_le {i j : Int} (q : Q (.d (.bool (decide (i ≤ j)))) m) : OpW X K (compareOp .LtE) (.d (.int i)) (.d (.int j)) m Q := opw_I0 (fun _ => op_le) (fun _ => .bl _) q
theorem o_gt {i j : Int} (q : Q (.d (.bool (decide (j < i)))) m) : OpW X K (compareOp .Gt) (.d (.int i)) (.d (.int j)) m Q := opw_I0 (fun _ => op_gt) (fun _ => .bl _) q
theorem o_ge {i j : Int} (q : Q (.d (.bool (decide (j ≤ i)))) m) : OpW X K (compareOp .GtE) (.d (.int i)) (.d (.int j)) m Q := opw_I0 (fun _ => op_ge) (fun _ => .bl _) q
/-! data -/
theorem un_of {k : Nat} {A : Around} (hr : Room k A) {n : Nat} (h : n ≤ 150) : A.units + n < cLine := by have := hr.un; omega
def rEqP (K : PySem.W.Frag) (neg : Bool) : R2 := fun x y H Q => ∃ d e, Da K H x d ∧ Da K H y e ∧ d.plain = true ∧ e.plain = true ∧ min d.depth e.depth ≤ 100 ∧ Q (.bl (if neg then !PyData.eqv d e else PyData.eqv d e)) H
theorem op_eqP {X : Cx} {k : Nat} (hr : Room k X.A) : OpR X (compareOp .Eq) (rEqP X.K false) := by
  intro pins s σ H x y v u Q I rx ry h
  obtain ⟨d, e, hd, he, sd, se, hm, q⟩ := h
  obtain ⟨as, r1⟩ := da_reads I hd v rx
  obtain ⟨bs, r2⟩ := da_reads I he u ry
  exact PySem.SeqAt.eq_plain r1 r2 sd se (un_of hr (by omega)) ⟨.bl _, H, I, rfl, q⟩
theorem op_neP {X : Cx} {k : Nat} (hr : Room k X.A) : OpR X (compareOp .NotEq) (rEqP X.K true) := by
  intro pins s σ H x y v u Q I rx ry h
  obtain ⟨d, e, hd, he, sd, se, hm, q⟩ := h
  obtain ⟨as, r1⟩ := da_reads I hd v rx
  obtain ⟨bs, r2⟩ := da_reads I he u ry
  exact PySem.SeqAt.ne_plain r1 r2 sd se (un_of hr (by omega)) ⟨.bl _, H, I, rfl, q⟩
theorem o_eq (F : Fam X P w K mg base N sc fv k) {d e : PyData} (hx : datOf m x = some d) (hy : datOf m y = some e) (h1 : d.plain = true) (h2 : e.plain = true) (hm : min d.depth e.depth ≤ 100) (q : Q (.d (.bool (PyData.eqv d e))) m) : OpW X K (compareOp .Eq) x y m Q := fun π G H R u v hk ru rv wv =>
  ⟨rEqP K false, fun j => F.cK j ▸ op_eqP (F.room j), d, e, dat_real hk ru hx, dat_real hk rv hy, h1, h2, hm, wv _ (.d (.bool _)) π G H m Xt.refl hk (Da.bl _) q⟩
theorem o_ne (F : Fam X P w K mg base N sc fv k) {d e : PyData} (hx : datOf m x = some d) (hy : datOf m y = some e) (h1 : d.plain = true) (h2 : e.plain = true) (hm : min d.depth e.depth ≤ 100) (q : Q (.d (.bool (!PyData.eqv d e))) m) : OpW X K (compareOp .NotEq) x y m Q := fun π G H R u v hk ru rv wv =>
  ⟨rEqP K true, fun j => F.cK j ▸ op_neP (F.room j), d, e, dat_real hk ru hx, dat_real hk rv hy, h1, h2, hm, wv _ (.d (.bool _)) π G H m Xt.refl hk (Da.bl _) q⟩
theorem eqv_int (i j : Int) : PyData.eqv (.int i) (.int j) = decide (i = j) := by
  unfold PyData.eqv; by_cases h : i = j <;> simp [h]
theorem o_eqI (F : Fam X P w K mg base N sc fv k) {i j : Int} (q : Q (.d (.bool (decide (i = j)))) m) : OpW X K (compareOp .Eq) (.d (.int i)) (.d (.int j)) m Q := o_eq F rfl rfl rfl rfl (by simp [PyData.depth]) (by rw [eqv_int]; exact q)
theorem o_neI (F : Fam X P w K mg base N sc fv k) {i j : Int} (q : Q (.d (.bool (!decide (i = j)))) m) : OpW X K (compareOp .NotEq) (.d (.int i)) (.d (.int j)) m Q := o_ne F rfl rfl rfl rfl (by simp [PyData.depth]) (by rw [eqv_int]; exact q)
theorem o_isN (q : Q (.d (.bool (match x with | .d .none => true | _ => false))) m) : OpW X K (compareOp .Is) x (.d .none) m Q := fun π G H R u v hk ru rv wv => by
  refine ⟨_, fun _ => op_isN, Da.nonI rv, wv _ (.d (.bool _)) π G H m Xt.refl hk ?_ q⟩
  cases x with
  | d y => cases ru <;> exact Da.bl _
  | r i => obtain ⟨a, _, rfl⟩ := ru; exact Da.bl _
  | t n => obtain rfl := ru; exact Da.bl _
  | s n => obtain ⟨a, rfl, _⟩ := ru; exact Da.bl _
  | x n => obtain rfl := ru; exact Da.bl _
  | e _ _ _ => obtain ⟨rfl, _⟩ := ru; exact Da.bl _
  | pr _ _ => obtain ⟨_, _, _, rfl, _⟩ := ru; exact Da.bl _
theorem o_notN (q : Q (.d (.bool (match x with | .d .none => false | _ => true))) m) : OpW X K (compareOp .IsNot) x (.d .none) m Q := fun π G H R u v hk ru rv wv => by
  refine ⟨_, fun _ => op_notN, Da.nonI rv, wv _ (.d (.bool _)) π G H m Xt.refl hk ?_ q⟩
  cases x with
  | d y => cases ru <;> exact Da.bl _
  | r i => obtain ⟨a, _, rfl⟩ := ru; exact Da.bl _
  | t n => obtain rfl := ru; exact Da.bl _
  | s n => obtain ⟨a, rfl, _⟩ := ru; exact Da.bl _
  | x n => obtain rfl := ru; exact Da.bl _
  | e _ _ _ => obtain ⟨rfl, _⟩ := ru; exact Da.bl _
  | pr _ _ => obtain ⟨_, _, _, rfl, _⟩ := ru; exact Da.bl _
def rCmp (K : PySem.W.Frag) (f : PyData → PyData → Bool) : R2 := fun x y H Q => ∃ d e, Da K H x d ∧ Da K H y e ∧ PySem.W.alike d e = true ∧ d ≠ .none ∧ min d.depth e.depth ≤ 100 ∧ Q (.bl (f d e)) H
theorem op_leP {X : Cx} {k : Nat} (hr : Room k X.A) : OpR X (compareOp .LtE) (rCmp X.K fun d e => !PySem.W.dataLt e d) := by
  intro pins s σ H x y v u Q I rx ry h
  obtain ⟨d, e, hd, he, al, hn, hm, q⟩ := h
  obtain ⟨as, r1⟩ := da_reads I hd v rx
  obtain ⟨bs, r2⟩ := da_reads I he u ry
  exact PySem.W.le_data r1 r2 al hn (un_of hr (by omega)) ⟨.bl _, H, I, rfl, q⟩
theorem o_leD (F : Fam X P w K mg base N sc fv k) {d e : PyData} (hx : datOf m x = some d) (hy : datOf m y = some e) (h1 : PySem.W.alike d e = true) (h2 : d ≠ .none) (hm : min d.depth e.depth ≤ 100) (q : Q (.d (.bool (!PySem.W.dataLt e d))) m) : OpW X K (compareOp .LtE) x y m Q := fun π G H R u v hk ru rv wv =>
  ⟨rCmp K _, fun j => F.cK j ▸ op_leP (F.room j), d, e, dat_real hk ru hx, dat_real hk rv hy, h1, h2, hm, wv _ (.d (.bool _)) π G H m Xt.refl hk (Da.bl _) q⟩
def rInP (K : PySem.W.Frag) : R2 := fun x y H Q => ∃ d xs, Da K H x d ∧ (Da K H y (.list xs) ∨ Da K H y (.tuple xs)) ∧ PyData.plainAll xs = true ∧ d.plain = true ∧ min (PyData.depthAll xs) d.depth ≤ 100 ∧ Q (.bl (xs.any fun z => PyData.eqv z d)) H
theorem op_inP {X : Cx} {k : Nat} (hr : Room k X.A) : OpR X (compareOp .In) (rInP X.K) := by
  intro pins s σ H x y v u Q I rx ry h
  obtain ⟨d, xs, hd, he, sd, se, hm, q⟩ := h
  obtain ⟨as, r1⟩ := da_reads I hd v rx
  rcases he with he | he
  · obtain ⟨bs, r2⟩ := da_reads I he u ry
    exact PySem.SeqAt.in_list_data r2 r1 sd se (by have := un_of hr (n := 140) (by omega); omega) ⟨.bl _, H, I, rfl, q⟩
  · obtain ⟨bs, r2⟩ := da_reads I he u ry
    exact PySem.SeqAt.in_tuple_data r2 r1 sd se (by have := un_of hr (n := 140) (by omega); omega) ⟨.bl _, H, I, rfl, q⟩
theorem o_in (F : Fam X P w K mg base N sc fv k) {d : PyData} {xs : List PyData} (hx : datOf m x = some d) (hy : datOf m y = some (.list xs) ∨ datOf m y = some (.tuple xs)) (h1 : PyData.plainAll xs = true) (h2 : d.plain = true) (hm : min (PyData.depthAll xs) d.depth ≤ 100) (q : Q (.d (.bool (xs.any fun z => PyData.eqv z d))) m) : OpW X K (compareOp .In) x y m Q := fun π G H R u v hk ru rv wv =>
  ⟨rInP K, fun j => F.cK j ▸ op_inP (F.room j), d, xs, dat_real hk ru hx, hy.imp (dat_real hk rv) (dat_real hk rv), h1, h2, hm, wv _ (.d (.bool _)) π G H m Xt.refl hk (Da.bl _) q⟩
/-! lists -/
/-- a list, as data or in the store -/
def lstOf (m : Mm) : MV → Option (List MV)
  | .d (.list ds) => some (ds.map .d)
  | .r i => match m[i]? with
    | some (.lst xs) => some xs
    | _ => none
  | _ => none
theorem lst_real {π : List Addr} {G H : Hp} {v : V} {xs : List MV} (hk : Hk K π G H m) (rv : Rv K G π v x) (hx : lstOf m x = some xs) : ∃ a vs, v = .ref a ∧ H a = some (.lst vs) ∧ Rvs K G π vs xs := by
  cases x with
  | d y =>
    cases y with
    | list ds =>
      cases hx
      obtain ⟨a, vs, e, h1, h2⟩ := Da.lstI rv
      exact ⟨a, vs, e, hk.sub _ _ h1, data_rvs h2⟩
    | tuple ds => cases hx
    | none => cases hx
    | bool _ => cases hx
    | int _ => cases hx
    | str _ => cases hx
    | dict _ => cases hx
  | t _ => cases hx
  | s _ => cases hx
  | x _ => cases hx
  | e _ _ _ => cases hx
  | pr _ _ => cases hx
  | r i =>
    obtain ⟨a, ha, e⟩ := rv
    have hx : (match m[i]? with | some (.lst xs) => some xs | _ => none) = some xs := hx
    cases ho : m[i]? with
    | none => rw [ho] at hx; cases hx
    | some o =>
      cases o with
      | ins C fs => rw [ho] at hx; cases hx
      | dct _ => rw [ho] at hx; cases hx
      | dtp _ => rw [ho] at hx; cases hx
      | o _ => rw [ho] at hx; cases hx
      | xdo _ => rw [ho] at hx; cases hx
      | dn _ _ => rw [ho] at hx; cases hx
      | fz _ _ _ => rw [ho] at hx; cases hx
      | lst ys =>
        rw [ho] at hx
        cases hx
        obtain ⟨a', u, h1, h2, vs, eu, rs⟩ := hk.obj i _ ho
        rw [ha] at h1; cases h1
        subst eu
        exact ⟨a, vs, e, h2, rs⟩
theorem paired_append {α β : Type} {F : α → β → Prop} : ∀ {as : List α} {bs : List β} {cs : List α} {ds : List β}, Paired F as bs → Paired F cs ds → Paired F (as ++ cs) (bs ++ ds)
  | _, _, _, _, .nil, h => h
  | _, _, _, _, .cons r t, h => .cons r (paired_append t h)
theorem o_cat {xs ys : List MV} (hx : lstOf m x = some xs) (hy : lstOf m y = some ys) (hl : xs.length + ys.length ≤ 100000) (q : NewL (xs ++ ys) m Q) : OpW X K (binaryOp .Add) x y m Q := fun π G H R u v hk ru rv wv => by
  obtain ⟨a, vs, e1, h1, r1⟩ := lst_real hk ru hx
  obtain ⟨b, ws, e2, h2, r2⟩ := lst_real hk rv hy
  exact ⟨_, fun _ => op_cat, a, b, vs, ws, e1, e2, h1, h2, by rw [Paired.length r1, Paired.length r2]; exact Nat.le_trans hl (by decide), fun p hp => newl hk hp (paired_append r1 r2) q wv⟩
theorem o_rep {xs : List MV} {n : Int} (hx : lstOf m x = some xs) (h0 : 0 ≤ n) (h1 : n ≤ 100000) (hl : xs.length * n.toNat ≤ 100000) (q : NewL (List.replicate n.toNat xs).flatten m Q) : OpW X K (binaryOp .Mult) x (.d (.int n)) m Q := fun π G H R u v hk ru rv wv => by
  obtain ⟨a, vs, e1, h2, r1⟩ := lst_real hk ru hx
  refine ⟨_, fun _ => op_rep, a, n, vs, e1, Da.intI rv, h2, by omega, by omega, by rw [Paired.length r1]; exact Nat.le_trans hl (by decide), fun p hp => newl hk hp ?_ q wv⟩
  clear hl h0 h1 q
  induction n.toNat with
  | zero => exact .nil
  | succ n ih => rw [List.replicate_succ, List.replicate_succ, List.flatten_cons, List.flatten_cons]; exact paired_append r1 ih
/-! indexes, slices -/
theorem ix_w (F : Fam X P w K mg base N sc fv k) {xs : List MV} {i : Int} (hx : seqOf m x = some xs) (hi : atI xs i = some y) (q : Q y m) : IxW X K x (.d (.int i)) m Q := fun π G H R u v hk ru rv wv => by
  obtain ⟨a, vs, e, hs, rs⟩ := seq_real hk ru hx
  have h2 : ∃ v, atI vs i = some v ∧ Rv K G π v y := by
    unfold atI at hi ⊢
    rw [Paired.length rs]
    cases e : ixN xs.length i with
    | none => rw [e] at hi; cases hi
    | some n => rw [e] at hi; exact paired_getR rs hi
  obtain ⟨v', h3, h4⟩ := h2
  refine ⟨rIx K, fun j => F.cK j ▸ ix_seq, ?_⟩
  cases hk' : knd x with
  | true => rw [hk'] at hs; exact .inl ⟨a, vs, i, v', e, Da.intI rv, hs, h3, wv v' y π G H m Xt.refl hk h4 q⟩
  | false => rw [hk'] at hs; exact .inr (.inl ⟨a, vs, i, v', e, Da.intI rv, hs, h3, wv v' y π G H m Xt.refl hk h4 q⟩)
def cutM {α : Type} (xs : List α) (lo hi : Option Int) : List α := (xs.drop (HT.sIx xs.length 0 lo)).take (HT.sIx xs.length xs.length hi - HT.sIx xs.length 0 lo)
theorem paired_drop {α β : Type} {F : α → β → Prop} : ∀ {as : List α} {bs : List β} (n : Nat), Paired F as bs → Paired F (as.drop n) (bs.drop n)
  | _, _, 0, h => h
  | _, _, _ + 1, .nil => .nil
  | _, _, n + 1, .cons _ t => paired_drop n t
theorem paired_take {α β : Type} {F : α → β → Prop} : ∀ {as : List α} {bs : List β} (n : Nat), Paired F as bs → Paired F (as.take n) (bs.take n)
  | _, _, 0, _ => .nil
  | _, _, _ + 1, .nil => .nil
  | _, _, n + 1, .cons r t => .cons r (paired_take n t)
/-- an end of a slice: nothing, or an int -/
def Wo (X : ι → Cx) (K : PySem.W.Frag) (e : Option Expr) (ρ : Ro) (m : Mm) (Q : Option Int → Mm → Prop) : Prop := match e with
  | none => Q none m
  | some e => We X K e ρ m fun x m1 => ∃ i : Int, x = .d (.int i) ∧ Q (some i) m1
def ToOf (X : ι → Cx) (e : Option Expr) : TO := fun σ H Q => ∃ t, (∀ j, PO (X j) e t) ∧ t σ H Q
theorem toOf (X : ι → Cx) (e : Option Expr) (j : ι) : PO (X j) e (ToOf X e) := ⟨fun pins s σ H Q I ⟨t, p, h⟩ => (p j).run pins s σ H Q I h⟩
theorem wo_reads {o : Option Expr} {Q : Option Int → Mm → Prop} (h : Wo X K o ρ m Q) {π : List Addr} {G H : Hp} {σ : St} {R : Option Int → Hp → Prop} (hk : Hk K π G H m) (sk : Sk K π G σ ρ) (wr : ∀ i π' G' H' m', Xt π G H π' G' H' → Hk K π' G' H' m' → Q i m' → R i H') : ToOf X o σ H R := by
  cases o with
  | none => exact ⟨_, fun _ => po_none, wr none π G H m Xt.refl hk h⟩
  | some e => exact ⟨_, fun j => po_some (teOf X e j), h π G σ H _ hk sk fun v x π1 G1 H1 m1 e1 hk1 rv ⟨i, ex, q⟩ => by
      subst ex
      exact ⟨i, Da.intI rv, wr (some i) π1 G1 H1 m1 e1 hk1 q⟩⟩
/-- a slice of a tuple (not the whole) or of a list -/
theorem we_slice (F : Fam X P w K mg base N sc fv k) {lo hi : Option Expr} {p2 : Pos} (h : We X K e ρ m fun x m1 => Wo X K lo ρ m1 fun l m2 => Wo X K hi ρ m2 fun u m3 =>
      (∃ ds, x = .d (.tuple ds) ∧ ¬ (HT.sIx ds.length 0 l = 0 ∧ HT.sIx ds.length ds.length u = ds.length) ∧ Q (.d (.tuple (cutM ds l u))) m3) ∨ (∃ xs, lstOf m3 x = some xs ∧ NewL (cutM xs l u) m3 Q)) : We X K (.Subscript e (.Slice lo hi none p2) pos) ρ m Q := fun π G σ H R hk sk wv => by
  refine ⟨tSl (fun x lo hi H Q => rSlT K x lo hi H Q ∨ rSlL K x lo hi H Q) (TeOf X e) (ToOf X lo) (ToOf X hi), fun j => F.cK j ▸ pe_slice (sl_tup.or sl_list) (teOf X e j) (toOf X lo j) (toOf X hi j), ?_⟩
  refine h π G σ H _ hk sk fun v x π1 G1 H1 m1 e1 hk1 rv q1 => wo_reads q1 hk1 (sk.xt e1) fun l π2 G2 H2 m2 e2 hk2 q2 => wo_reads q2 hk2 (sk.xt (e1.trans e2)) fun u π3 G3 H3 m3 e3 hk3 q3 => ?_
  have e13 := (e1.trans e2).trans e3
  have rv3 := rv.xt (e2.trans e3)
  rcases q3 with ⟨ds, ex, hn, q⟩ | ⟨xs, hx, q⟩
  · subst ex
    obtain ⟨a, vs, ev, ht, dt⟩ := Da.tupI rv3
    have hl := dt.len
    refine .inl ⟨a, vs, ev, Same.tupq hk3.sub ht, by rw [hl]; exact hn, fun p hp => newt hk3 hp ?_ q (wv.xt e13)⟩
    unfold cutV cutM
    rw [hl]
    exact (dt.drop _).take _
  · obtain ⟨a, vs, ev, ht, rs⟩ := lst_real hk3 rv3 hx
    refine .inr ⟨a, vs, ev, SqL.of ht, fun p hp => newl hk3 hp ?_ q (wv.xt e13)⟩
    unfold cutV cutM
    rw [Paired.length rs]
    exact paired_take _ (paired_drop _ rs)
/-- a slice of the script -/
theorem we_sliceS (F : Fam X P w K mg base N sc fv k) {lo hi : Option Expr} {p2 : Pos} (h : We X K e ρ m fun x m1 => Wo X K lo ρ m1 fun l m2 => Wo X K hi ρ m2 fun u m3 => ∃ ns : List Int, x = .s ns ∧ NewL ((cutM ns l u).map fun i => .d (.int i)) m3 Q) : We X K (.Subscript e (.Slice lo hi none p2) pos) ρ m Q := fun π G σ H R hk sk wv => by
  refine ⟨tSl (rSlL K) (TeOf X e) (ToOf X lo) (ToOf X hi), fun j => F.cK j ▸ pe_slice sl_list (teOf X e j) (toOf X lo j) (toOf X hi j), ?_⟩
  refine h π G σ H _ hk sk fun v x π1 G1 H1 m1 e1 hk1 rv q1 => wo_reads q1 hk1 (sk.xt e1) fun l π2 G2 H2 m2 e2 hk2 q2 => wo_reads q2 hk2 (sk.xt (e1.trans e2)) fun u π3 G3 H3 m3 e3 hk3 ⟨ns, ex, q⟩ => ?_
  subst ex
  obtain ⟨a, ev, hs⟩ := rv.xt (e2.trans e3)
  refine ⟨a, _, ev, hk3.sub.seq hs, fun p hp => newl hk3 hp ?_ q (wv.xt ((e1.trans e2).trans e3))⟩
  have ec : cutV (ns.map V.int) l u = (cutM ns l u).map V.int := by
    unfold cutV cutM
    rw [List.length_map, List.map_take, List.map_drop]
  rw [ec]
  generalize cutM ns l u = xs
  induction xs with
  | nil => exact .nil
  | cons i xs ih => exact .cons (Da.int i) ih
end
end Wn
set_option Elab.async false
set_option linter.all false
set_option maxRecDepth 100000
set_option maxHeartbeats 2000000
set_option autoImplicit false
namespace Wn
open PySem L2
section
variable {ι : Type} {X : ι → Cx} {P : Program} {w : World} {K : PySem.W.Frag} {mg : Str → Option Value} {base : Heap} {N : List Str} {sc : Scope} {fv : Str → Bool} {k : Nat} {ρ : Ro} {m : Mm} {Q Q' : QV} {D : Ed} {a b c e tg it elt : Expr} {pos p : Pos} {x y z : MV}
theorem rvs1 {π : List Addr} {G : Hp} {vs : List V} (h : Rvs K G π vs [x]) : ∃ v, vs = [v] ∧ Rv K G π v x := by
  cases h with
  | cons r t => cases t; exact ⟨_, rfl, r⟩
theorem rvs2 {π : List Addr} {G : Hp} {vs : List V} (h : Rvs K G π vs [x, y]) : ∃ v u, vs = [v, u] ∧ Rv K G π v x ∧ Rv K G π u y := by
  cases h with
  | cons r t => obtain ⟨u, e, ru⟩ := rvs1 t; subst e; exact ⟨_, u, rfl, r, ru⟩
theorem c_len (F : Fam X P w K mg base N sc fv k) {xs : List MV} (hx : seqOf m x = some xs) (q : Q (.d (.int (xs.length : Nat))) m) : CaW X K (.builtin "len") [x] m Q := fun π G H R vs hk rs wv => by
  obtain ⟨v, rfl, rv⟩ := rvs1 rs
  obtain ⟨a, us, e, hs, ru⟩ := seq_real hk rv hx
  refine ⟨fun xs H Q => ∃ p ys, xs = [.ref p] ∧ (SqL K H p ys ∨ SqT K H p ys) ∧ Q (.int ys.length) H, fun j => F.cK j ▸ call_len_seq, a, us, by rw [e], ?_, ?_⟩
  · cases hk' : knd x with
    | true => rw [hk'] at hs; exact .inl hs
    | false => rw [hk'] at hs; exact .inr hs
  · rw [Paired.length ru]
    exact wv _ (.d (.int _)) π G H m Xt.refl hk (Da.int _) q
theorem c_abs {i : Int} (q : Q (.d (.int (if i < 0 then -i else i))) m) : CaW X K (.builtin "abs") [.d (.int i)] m Q := fun π G H R vs hk rs wv => by
  obtain ⟨v, rfl, rv⟩ := rvs1 rs
  exact ⟨_, fun _ => call_abs, i, by rw [Da.intI rv], wv _ (.d (.int _)) π G H m Xt.refl hk (Da.int _) q⟩
theorem c_min2 (F : Fam X P w K mg base N sc fv k) {i j : Int} (q : Q (.d (.int (if j < i then j else i))) m) : CaW X K (.builtin "min") [.d (.int i), .d (.int j)] m Q := fun π G H R vs hk rs wv => by
  obtain ⟨v, u, rfl, rv, ru⟩ := rvs2 rs
  exact ⟨_, fun t => call_min2 (F.calm t), i, j, by rw [Da.intI rv, Da.intI ru], wv _ (.d (.int _)) π G H m Xt.refl hk (Da.int _) q⟩
theorem c_intB {b : Bool} (q : Q (.d (.int (if b then 1 else 0))) m) : CaW X K (.type "int") [.d (.bool b)] m Q := fun π G H R vs hk rs wv => by
  obtain ⟨v, rfl, rv⟩ := rvs1 rs
  exact ⟨_, fun _ => call_int1, .inr ⟨b, by rw [Da.blI rv], wv _ (.d (.int _)) π G H m Xt.refl hk (Da.int _) q⟩⟩
theorem c_tup (F : Fam X P w K mg base N sc fv k) {ds : List PyData} (hx : seqOf m x = some (ds.map .d)) (q : Q (.d (.tuple ds)) m) : CaW X K (.type "tuple") [x] m Q := fun π G H R vs hk rs wv => by
  obtain ⟨v, rfl, rv⟩ := rvs1 rs
  obtain ⟨a, us, e, hs, ru⟩ := seq_real hk rv hx
  refine ⟨fun xs H Q => ∃ p ys, xs = [.ref p] ∧ ((SqL K H p ys ∧ ∀ l, H l = none → Q (.ref l) (upd H l (.tup ys))) ∨ (SqT K H p ys ∧ Q (.ref p) H)), fun j => F.cK j ▸ call_tuple_of, a, us, by rw [e], ?_⟩
  cases hk' : knd x with
  | true => rw [hk'] at hs; exact .inl ⟨hs, fun p hp => newt hk hp (rvs_data ru) q wv⟩
  | false =>
    rw [hk'] at hs
    refine .inr ⟨hs, ?_⟩
    rw [← e]
    refine wv v (.d (.tuple ds)) π G H m Xt.refl hk ?_ q
    cases x with
    | r i => cases hk'
    | t i => cases hk'
    | s i => cases hk'
    | x i => cases hk'
    | e _ _ _ => cases hk'
    | pr _ _ => cases hk'
    | d y =>
      cases y with
      | tuple es =>
        have z : es.map MV.d = ds.map MV.d := Option.some.inj hx
        have z2 : es = ds := by
          have := congrArg allD z
          rw [allD_map, allD_map] at this
          exact Option.some.inj this
        subst z2
        exact rv
      | list _ => cases hk'
      | none => cases hk'
      | bool _ => cases hk'
      | int _ => cases hk'
      | str _ => cases hk'
      | dict _ => cases hk'
theorem c_lst (F : Fam X P w K mg base N sc fv k) {xs : List MV} (hx : seqOf m x = some xs) (q : NewL xs m Q) : CaW X K (.type "list") [x] m Q := fun π G H R vs hk rs wv => by
  obtain ⟨v, rfl, rv⟩ := rvs1 rs
  obtain ⟨a, us, e, hs, ru⟩ := seq_real hk rv hx
  refine ⟨fun xs H Q => ∃ p ys, xs = [.ref p] ∧ (SqL K H p ys ∨ SqT K H p ys) ∧ ∀ l, H l = none → Q (.ref l) (upd H l (.lst ys)), fun j => F.cK j ▸ call_list_of, a, us, by rw [e], ?_, fun p hp => newl hk hp ru q wv⟩
  cases hk' : knd x with
  | true => rw [hk'] at hs; exact .inl hs
  | false => rw [hk'] at hs; exact .inr hs
/-- list(range(e)) -/
theorem we_listRg (F : Fam X P w K mg base N sc fv k) {p2 pos2 : Pos} (hl : mg "list" = none) (hr : mg "range" = none) (h : We X K e ρ m fun x m1 => ∃ n : Int, x = .d (.int n) ∧ 0 ≤ n ∧ n ≤ 100000 ∧ NewL (rangeM 0 n.toNat) m1 Q)
    (hgl : sc.names.lookup ("list" : Str) = some .globalImplicit := by rfl) (hgr : sc.names.lookup ("range" : Str) = some .globalImplicit := by rfl) (na : ∀ env : Env, starEach [e] env = (false, eval e env) :: starEach [] env := by intro _; rfl)
    (na2 : ∀ env : Env, starEach [Expr.Call (.Name "range" p2) [e] [] pos2] env = (false, eval (Expr.Call (.Name "range" p2) [e] [] pos2) env) :: starEach [] env := by intro _; rfl) : We X K (.Call (.Name "list" p) [.Call (.Name "range" p2) [e] [] pos2] [] pos) ρ m Q := fun π G σ H R hk sk wv =>
  ⟨_, fun j => pe_listRg (F.calm j) (F.gl hgl j) (by rw [F.cM]; exact hl) (prg_1 (F.gl hgr j) (by rw [F.cM]; exact hr) (teOf X e j) (na _)) (na2 _), h π G σ H _ hk sk fun v x π1 G1 H1 m1 e1 hk1 rv ⟨n, ex, n0, n1, q⟩ => by
    subst ex
    refine ⟨n, Da.intI rv, RgOk.of_le (by omega) (by omega) (by omega) n0, fun q' hq => newl hk1 hq ?_ q (wv.xt e1)⟩
    have z : ∀ l : List Nat, Rvs K G1 π1 (l.map fun i => V.int (0 + (i : Nat))) (l.map fun i => MV.d (.int (0 + (i : Nat)))) := by
      intro l
      induction l with
      | nil => exact .nil
      | cons a l ih => exact .cons (Da.int _) ih
    have e0 : (n - 0).toNat = n.toNat := by omega
    unfold rgV rangeM
    rw [e0]
    exact z _⟩
/-! isinstance -/
def isaD (T : String) (d : PyData) : Option Bool := match T with
  | "int" => some d.isInt
  | "bool" => some d.isBool
  | "tuple" => some d.isTuple
  | "str" => some d.isStr
  | "list" => some d.isList
  | "dict" => some d.isDict
  | _ => none
theorem cr_isa {X : Cx} {T : String} : CallR X (.builtin "isinstance") (fun xs H Q => ∃ x d b, xs = [x, .ty T] ∧ Da X.K H x d ∧ isaD T d = some b ∧ Q (.bl b) H) := by
  intro pins s σ H xs us Q I r h
  obtain ⟨x, d, b, rfl, hd, hb, q⟩ := h
  cases r with
  | cons r1 t =>
    rename_i v us
    cases t with
    | cons r2 t =>
      cases t
      cases r2
      obtain ⟨as, rd⟩ := da_reads I hd v r1
      unfold isaD at hb
      split at hb
      · cases hb; exact PySem.W.isinstance_int_data rd fun tk _ => ⟨.bl _, H, I.tok _, rfl, q⟩
      · cases hb; exact PySem.W.isinstance_bool_data rd fun tk _ => ⟨.bl _, H, I.tok _, rfl, q⟩
      · cases hb; exact PySem.W.isinstance_tuple_data rd fun tk _ => ⟨.bl _, H, I.tok _, rfl, q⟩
      · cases hb; exact PySem.W.isinstance_str_data rd fun tk _ => ⟨.bl _, H, I.tok _, rfl, q⟩
      · cases hb; exact PySem.W.isinstance_list_data rd fun tk _ => ⟨.bl _, H, I.tok _, rfl, q⟩
      · cases hb; exact PySem.W.isinstance_dict_data rd fun tk _ => ⟨.bl _, H, I.tok _, rfl, q⟩
      · cases hb
theorem c_isa (F : Fam X P w K mg base N sc fv k) {T : String} {d : PyData} {b : Bool} (hx : datOf m x = some d) (hb : isaD T d = some b) (q : Q (.d (.bool b)) m) : CaW X K (.builtin "isinstance") [x, .t T] m Q := fun π G H R vs hk rs wv => by
  obtain ⟨v, u, rfl, rv, ru⟩ := rvs2 rs
  refine ⟨fun xs H Q => ∃ x d b, xs = [x, .ty T] ∧ Da K H x d ∧ isaD T d = some b ∧ Q (.bl b) H, fun j => F.cK j ▸ cr_isa, v, d, b, ?_, dat_real hk rv hx, hb, wv _ (.d (.bool b)) π G H m Xt.refl hk (Da.bl b) q⟩
  rw [show u = V.ty T from ru]
/-! sorted -/
theorem each_vals {X : Cx} {pins : List (Addr × Obj)} {σ : St} {G H : Hp} {s : Shared} (I : Inv X pins σ H s) (sg : Same G H) : ∀ {vs : List V} {ds : List PyData} {us : List Value}, DaAll X.K G vs ds → Vals vs us →
    PySem.W.EachIs (fun (u : Value) (d : PyData) => ∃ x : V, RelV x u ∧ Da X.K G x d) us ds ∧ PySem.W.EachIs (fun (u : Value) (d : PyData) => ∃ as, Reads s.heap u d as) us ds
  | _, _, _, .nil, .nil => ⟨.nil, .nil⟩
  | _, _, _, .cons a t, .cons r rs => let ⟨h1, h2⟩ := each_vals I sg t rs; ⟨.cons ⟨_, r, a⟩ h1, .cons (da_reads I (da_mono sg a) _ r) h2⟩
theorem vals_each {K : PySem.W.Frag} {G : Hp} : ∀ {us : List Value} {ds : List PyData}, PySem.W.EachIs (fun (u : Value) (d : PyData) => ∃ x : V, RelV x u ∧ Da K G x d) us ds → ∃ vs : List V, Vals vs us ∧ DaAll K G vs ds
  | _, _, .nil => ⟨[], .nil, .nil⟩
  | _, _, .cons ⟨x, r, a⟩ t => let ⟨vs, h1, h2⟩ := vals_each t; ⟨x :: vs, .cons r h1, .cons a h2⟩
def sortD (ds : List PyData) : List PyData := ds.mergeSort (PySem.W.dataLe false id)
def rSortD (K : PySem.W.Frag) : List V → Hp → VK → Prop := fun vs H Q => ∃ G a ws ds, vs = [V.ref a] ∧ Same G H ∧ H a = some (.lst ws) ∧ DaAll K G ws ds ∧ PySem.W.AllAlike ds ∧ PySem.W.Sortable ds ∧ ds.length ≤ 100000 ∧ (∀ d ∈ ds, d.depth ≤ 100) ∧
  ∀ p os, H p = none → DaAll K G os (sortD ds) → Q (.ref p) (upd H p (.lst os))
theorem cr_sortD {X : Cx} {k : Nat} (hr : Room k X.A) : CallR X (.builtin "sorted") (rSortD X.K) := by
  intro pins s σ H vs us Q I r h
  obtain ⟨G, a, ws, ds, rfl, sg, hs, hd, al, so, hz, dp, q⟩ := h
  obtain ⟨its, rv, hl, _⟩ := I.list (SqL.of hs)
  rw [Vals.ref1 r]
  obtain ⟨e1, e2⟩ := each_vals I sg hd rv
  have hmp : ds.map id = ds := List.map_id ds
  refine PySem.W.sorted_data (enc := id) (bs := ds) hl.isList e1 e2 (by rw [hmp]; exact al) (by rw [hmp]; exact so) (Nat.le_trans hz (by decide)) (fun b hb => by have := dp b hb; have := un_of hr (n := 102) (by omega); show X.A.units + 2 + b.depth < cLine; omega) fun out hlen ho => ?_
  obtain ⟨os, h1, h2⟩ := vals_each (K := X.K) (G := G) ho
  obtain ⟨ep, he'⟩ := PyProof.Rows.sortedAll_at s.heap its out.toArray
  have hlen2 : os.length ≤ sizeLine := by rw [h1.length, hlen]; exact Nat.le_trans hz (by decide)
  exact ⟨.ref _, upd H (s.heap.objs.size + 1) (.lst os), I.laid (t' := s.toks) (fun _ _ => PyProof.Rows.sortedAll_old) (Nat.le_succ _) ⟨hlen2, out, ep, h1, he'⟩, rfl, q _ os (I.hok.fresh (Nat.le_succ _)) h2⟩
theorem c_sorted (F : Fam X P w K mg base N sc fv k) {ds : List PyData} (hx : lstOf m x = some (ds.map .d)) (al : PySem.W.AllAlike ds) (so : PySem.W.Sortable ds) (hz : ds.length ≤ 100000) (dp : ∀ d ∈ ds, d.depth ≤ 100) (q : NewL ((sortD ds).map .d) m Q) : CaW X K (.builtin "sorted") [x] m Q := fun π G H R vs hk rs wv => by
  obtain ⟨v, rfl, rv⟩ := rvs1 rs
  obtain ⟨a, us, e, hs, ru⟩ := lst_real hk rv hx
  exact ⟨rSortD K, fun j => F.cK j ▸ cr_sortD (F.room j), G, a, us, ds, by rw [e], hk.sub, hs, rvs_data ru, al, so, hz, dp, fun p os hp ho => newl hk hp (data_rvs ho) q wv⟩
/-! min of a list of data, with default= or without -/
def rMinD (K : PySem.W.Frag) : List V → Hp → VK → Prop := fun vs H Q => ∃ G a ws d ds, vs = [V.ref a] ∧ Same G H ∧ H a = some (.lst ws) ∧ DaAll K G ws (d :: ds) ∧ PySem.W.AlikeAll (d :: ds) ∧ PyData.plainAll (d :: ds) = true ∧ PyData.depthAll (d :: ds) ≤ 100 ∧ ∀ v, Da K G v (PySem.W.minD d ds) → Q v H
theorem vals_getU : ∀ {xs : List V} {us : List Value} {i : Nat} {u : Value}, Vals xs us → us[i]? = some u → ∃ x, xs[i]? = some x ∧ RelV x u
  | _, _, _, _, .nil, e => by simp at e
  | _, _, 0, _, .cons r _, e => by simp at e; subst e; exact ⟨_, rfl, r⟩
  | _, _, i + 1, x, .cons _ t, e => by
    obtain ⟨u, h1, h2⟩ := vals_getU (i := i) (u := x) t (by simpa using e)
    exact ⟨u, by simpa using h1, h2⟩
theorem plain_mem' : ∀ {xs : List PyData} {x : PyData}, PyData.plainAll xs = true → x ∈ xs → x.plain = true
  | y :: ys, x, h, hx => by
    have h : (y.plain && PyData.plainAll ys) = true := h
    rw [Bool.and_eq_true] at h
    rcases List.mem_cons.mp hx with e | hx
    · rw [e]; exact h.1
    · exact plain_mem' h.2 hx
theorem pick {X : Cx} {pins : List (Addr × Obj)} {σ : St} {G H : Hp} {s : Shared} {h' : Heap} {tk : Nat} (I : Inv X pins σ H s) (sg : Same G H) {ws : List V} {es : List PyData} {its : List Value} {i : Nat} {v : Value} {d : PyData} {bs : List Addr}
    (hd : DaAll X.K G ws es) (rv : Vals ws its) (hv : its[i]? = some v) (hp : PyData.plainAll es = true) (rd : Reads h' v d bs) (hk : ∀ b o, s.heap.get? b = some o → h'.get? b = some o) : ∃ x, RelV x v ∧ Da X.K G x d := by
  obtain ⟨x, hx, rx⟩ := vals_getU rv hv
  obtain ⟨e, he, de⟩ := hd.getV hx
  obtain ⟨as, re⟩ := da_reads I (da_mono sg de) v rx
  have z : e = d := PySem.SeqAt.plain_unique e d v as bs (plain_mem' hp (List.mem_of_getElem? he)) (PySem.W.reads_keeps hk re) rd
  subst z
  exact ⟨x, rx, de⟩
theorem cr_minD {X : Cx} {k : Nat} (hc : X.calm = true) (hr : Room k X.A) : CallR X (.builtin "min") (rMinD X.K) := by
  intro pins s σ H vs us Q I r h
  obtain ⟨G, a, ws, d, ds, rfl, sg, hs, hd, al, pl, dp, q⟩ := h
  obtain ⟨its, rv, hl, _⟩ := I.list (SqL.of hs)
  rw [Vals.ref1 r]
  obtain ⟨as, ra⟩ := daAll_reads I (daAll_mono sg hd) rv
  refine PySem.W.min_list_data (I.ok.hd hc) hl.isList (by simpa using ra) al (by have := un_of hr (n := 102) (by omega); omega) fun i v h' tk bs hv rd hk => ?_
  obtain ⟨x, rx, dx⟩ := pick (tk := tk) I sg hd rv (by simpa using hv) pl rd hk
  exact ⟨x, H, I.kept (t' := tk) hk, rx, q x dx⟩
theorem c_minD (F : Fam X P w K mg base N sc fv k) {d : PyData} {ds : List PyData} (hx : lstOf m x = some ((d :: ds).map .d)) (al : PySem.W.AlikeAll (d :: ds)) (pl : PyData.plainAll (d :: ds) = true) (dp : PyData.depthAll (d :: ds) ≤ 100) (q : Q (.d (PySem.W.minD d ds)) m) : CaW X K (.builtin "min") [x] m Q := fun π G H R vs hk rs wv => by
  obtain ⟨v, rfl, rv⟩ := rvs1 rs
  obtain ⟨a, us, e, hs, ru⟩ := lst_real hk rv hx
  exact ⟨rMinD K, fun j => F.cK j ▸ cr_minD (F.calm j) (F.room j), G, a, us, d, ds, by rw [e], hk.sub, hs, rvs_data ru, al, pl, dp, fun v' dv => wv v' (.d _) π G H m Xt.refl hk dv q⟩
def rMinDD (K : PySem.W.Frag) : List V → List V → Hp → VK → Prop := fun vs zs H Q => ∃ G a ws z ds, vs = [V.ref a] ∧ zs = [z] ∧ Same G H ∧ H a = some (.lst ws) ∧ DaAll K G ws ds ∧ PySem.W.AlikeAll ds ∧ PyData.plainAll ds = true ∧ PyData.depthAll ds ≤ 100 ∧
  (ds = [] → Q z H) ∧ ∀ y ys v, ds = y :: ys → Da K G v (PySem.W.minD y ys) → Q v H
theorem cr_minDD {X : Cx} {k : Nat} (hc : X.calm = true) (hr : Room k X.A) : CallRK X (.builtin "min") [Str.ofString "default"] (rMinDD X.K) := by
  intro pins s σ H vs zs us ws' Q I r r2 h
  obtain ⟨G, a, ws, z, ds, rfl, rfl, sg, hs, hd, al, pl, dp, q0, q⟩ := h
  obtain ⟨its, rv, hl, _⟩ := I.list (SqL.of hs)
  rw [Vals.ref1 r]
  cases r2 with
  | cons rz t =>
    cases t
    obtain ⟨as, ra⟩ := daAll_reads I (daAll_mono sg hd) rv
    refine PySem.W.min_list_default (I.ok.hd hc) hl.isList (by simpa using ra) al (by have := un_of hr (n := 102) (by omega); omega) (fun e h' tk hk => ⟨z, H, I.kept (t' := tk) hk, rz, q0 e⟩) fun y ys i v h' tk bs e hv rd hk => ?_
    obtain ⟨x, rx, dx⟩ := pick (tk := tk) I sg hd rv (by simpa using hv) pl rd hk
    exact ⟨x, H, I.kept (t' := tk) hk, rx, q y ys x e dx⟩
/-- min(e, default=f) -/
theorem we_minDD (F : Fam X P w K mg base N sc fv k) {f : Expr} {kp : Pos} (hm : mg "min" = none) (h : We X K e ρ m fun x m1 => We X K f ρ m1 fun z m2 => ∃ ds, lstOf m2 x = some (ds.map .d) ∧ PySem.W.AlikeAll ds ∧ PyData.plainAll ds = true ∧ PyData.depthAll ds ≤ 100 ∧ (match ds with | [] => Q z m2 | y :: ys => Q (.d (PySem.W.minD y ys)) m2))
    (hg : sc.names.lookup ("min" : Str) = some .globalImplicit := by rfl)
    (he : ∀ env : Env, backTo pos (starEach [e] env) = (false, eval e env) :: backTo pos (starEach [] env) := by intro _; rfl) (hpl : ∀ env : Env, (backTo pos (starEach [e] env)).any (·.1) = false := by intro _; rfl) (hst : ∀ env : Env, starEach [e] env = (false, eval e env) :: starEach [] env := by intro _; rfl) :
    We X K (.Call (.Name "min" p) [e] [⟨some "default", f, kp⟩] pos) ρ m Q := fun π G σ H R hk sk wv => by
  refine ⟨tCKw (rMinDD K) (tCons (TeOf X e) tNil) (tCons (TeOf X f) tNil), fun j => pe_callBK (F.cK j ▸ cr_minDD (F.calm j) (F.room j)) (F.gl hg j) (by rw [F.cM]; exact hm) (by decide +kernel) (pa_cons (teOf X e j) pa_nil (hst _)) (pk_cons (teOf X f j) pk_nil) (by decide) (by decide) (he _) (hpl _), ?_⟩
  refine h π G σ H _ hk sk fun v x π1 G1 H1 m1 e1 hk1 rv q1 => q1 π1 G1 σ H1 _ hk1 (sk.xt e1) fun z zx π2 G2 H2 m2 e2 hk2 rz ⟨ds, hx, al, pl, dp, q2⟩ => ?_
  obtain ⟨a, us, ev, hs, ru⟩ := lst_real hk2 (rv.xt e2) hx
  have wv2 := wv.xt (e1.trans e2)
  refine ⟨G2, a, us, z, ds, by rw [ev], rfl, hk2.sub, hs, rvs_data ru, al, pl, dp, fun e0 => ?_, fun y ys v' ey dv => ?_⟩
  · subst e0; exact wv2 z zx π2 G2 H2 m2 Xt.refl hk2 rz q2
  · subst ey; exact wv2 v' (.d _) π2 G2 H2 m2 Xt.refl hk2 dv q2
/-! xs.append(e) -/
theorem we_append (F : Fam X P w K mg base N sc fv k) {o : Expr} {apos : Pos} (h : We X K o ρ m fun y m1 => ∃ i xs, y = .r i ∧ m1[i]? = some (.lst xs) ∧ We X K e ρ m1 fun x m2 => ∃ xs', m2[i]? = some (.lst xs') ∧ xs'.length < 100000 ∧ Q (.d .none) (m2.set i (.lst (xs' ++ [x]))))
    (hst : ∀ env : Env, starEach [e] env = (false, eval e env) :: starEach [] env := by intro _; rfl) (hbase : ∀ env : Env, attributeBase o "append" env (eval o env) = eval o env := by intro _; rfl)
    (hfew : ∀ env : Env, ((backTo pos (starEach [e] env)).all (fun x => !x.1) && (backToKw pos (keywordEach [] env)).all (fun x => x.1.isSome) && decide ([e].length + ([] : List Keyword).length + (if ([] : List Keyword).isEmpty then 0 else 1) < 30)) = true := by intro _; rfl)
    (hline : (apos.endLine == pos.line) = true := by rfl) (hplain : ∀ env : Env, (backTo pos (starEach [] env)).any (·.1) = false := by intro _; rfl) :
    We X K (.Call (.Attribute o "append" apos) [e] [] pos) ρ m Q := fun π G σ H R hk sk wv => by
  refine ⟨tBM K "list" rAppend (TeOf X o) (tCons (TeOf X e) tNil), fun j => F.cK j ▸ pe_bm PySem.F.plainAttrs_list PySem.F.slot_list_append PySem.F.type_list_append mt_append (teOf X o j) (pa_cons (teOf X e j) pa_nil (hst _)) (hbase _) (hfew _) hline (hst _) (hplain _), h π G σ H _ hk sk fun v y π1 G1 H1 m1 e1 hk1 rv ⟨i, xs, ey, hi, q1⟩ => ?_⟩
  subst ey
  obtain ⟨a, ha, rfl⟩ := rv
  obtain ⟨a', u, h1, h2, us, eu, ru⟩ := hk1.obj i _ hi
  rw [ha] at h1; cases h1
  subst eu
  refine ⟨Or.inl ⟨rfl, us, SqL.of h2⟩, q1 π1 G1 σ H1 _ hk1 (sk.xt e1) fun z x π2 G2 H2 m2 e2 hk2 rz ⟨xs', hi', hl, q2⟩ => ?_⟩
  have ha2 := e2.get ha
  obtain ⟨a', u, h1', h2', us', eu, ru'⟩ := hk2.obj i _ hi'
  rw [ha2] at h1'; cases h1'
  subst eu
  have e3 : Xt π2 G2 H2 π2 G2 (upd H2 a (.lst (us' ++ [z]))) := Xt.write (List.mem_of_getElem? ha2)
  refine ⟨a, us', z, rfl, rfl, h2', by rw [Paired.length ru']; exact Nat.lt_of_lt_of_le hl (by decide), ?_⟩
  exact wv _ (.d .none) π2 G2 _ _ ((e1.trans e2).trans e3) (hk2.write ha2 (show Rob K G2 π2 (.lst (us' ++ [z])) (.lst (xs' ++ [x])) from ⟨_, rfl, Paired.snoc ru' rz⟩)) Da.non q2
/-! all -/
theorem c_all (F : Fam X P w K mg base N sc fv k) {bs : List Bool} (hx : lstOf m x = some (bs.map fun b => .d (.bool b))) (q : Q (.d (.bool (bs.all id))) m) : CaW X K (.builtin "all") [x] m Q := fun π G H R vs hk rs wv => by
  obtain ⟨v, rfl, rv⟩ := rvs1 rs
  obtain ⟨a, us, e, hs, ru⟩ := lst_real hk rv hx
  have eu : us = bs.map V.bl := by
    clear hs hx q
    induction bs generalizing us with
    | nil => cases ru; rfl
    | cons b bs ih => cases ru with | cons r t => rw [Da.blI r, ih _ t]; rfl
  subst eu
  exact ⟨rAll K, fun j => F.cK j ▸ cr_all (F.calm j), a, bs, by rw [e], SqL.of hs, wv _ (.d (.bool _)) π G H m Xt.refl hk (Da.bl _) q⟩
end
end Wn
set_option Elab.async false
set_option linter.all false
set_option maxRecDepth 100000
set_option maxHeartbeats 2000000
set_option autoImplicit false
namespace Wn
open PySem L2
structure Bt (mg : Str → Option Value) : Prop where
  len : mg "len" = none
  isi : mg "isinstance" = none
  int : mg "int" = none
  bool : mg "bool" = none
  tuple : mg "tuple" = none
  list : mg "list" = none
  range : mg "range" = none
  min : mg "min" = none
  abs : mg "abs" = none
  sorted : mg "sorted" = none
  zip : mg "zip" = none
  enumerate : mg "enumerate" = none
theorem bo_len : bootBuiltins "len" = some (.builtin "len") := by decide +kernel
theorem bo_isi : bootBuiltins "isinstance" = some (.builtin "isinstance") := by decide +kernel
theorem bo_min : bootBuiltins "min" = some (.builtin "min") := by decide +kernel
theorem bo_abs : bootBuiltins "abs" = some (.builtin "abs") := by decide +kernel
theorem bo_sorted : bootBuiltins "sorted" = some (.builtin "sorted") := by decide +kernel
theorem bo_int : bootBuiltins "int" = some (.type "int") := by decide +kernel
theorem bo_bool : bootBuiltins "bool" = some (.type "bool") := by decide +kernel
theorem bo_tuple : bootBuiltins "tuple" = some (.type "tuple") := by decide +kernel
theorem bo_list : bootBuiltins "list" = some (.type "list") := by decide +kernel
section
variable {ι : Type} {X : ι → Cx} {P : Program} {w : World} {K : PySem.W.Frag} {mg : Str → Option Value} {base : Heap} {N : List Str} {sc : Scope} {fv : Str → Bool} {k : Nat} {ρ : Ro} {m : Mm} {Q Q' : QV} {D : Ed} {a b c e tg it elt : Expr} {pos p : Pos} {x y z : MV}
theorem b_len (F : Fam X P w K mg base N sc fv k) (B : Bt mg) (h : We X K e ρ m fun x m1 => ∃ xs, seqOf m1 x = some xs ∧ Q (.d (.int (xs.length : Nat))) m1) (hg : sc.names.lookup ("len" : Str) = some .globalImplicit := by rfl) (he : ∀ env : Env, starEach [e] env = (false, eval e env) :: starEach [] env := by intro _; rfl) (hpl : ∀ env : Env, (backTo pos (starEach [] env)).any (·.1) = false := by intro _; rfl) :
    We X K (.Call (.Name "len" p) [e] [] pos) ρ m Q := we_callB F (wr_cons (h.mono fun x m1 ⟨xs, hx, q⟩ => wr_nil (c_len F hx q)) he) B.len bo_len hg (by decide) (by decide) he hpl
theorem b_isi (F : Fam X P w K mg base N sc fv k) (B : Bt mg) {T : Str} {n : String} {p2 : Pos} (hm : mg T = none) (hv : bootBuiltins T = some (.type n)) (h : We X K e ρ m fun x m1 => ∃ d b, datOf m1 x = some d ∧ isaD n d = some b ∧ Q (.d (.bool b)) m1) (hg : sc.names.lookup ("isinstance" : Str) = some .globalImplicit := by rfl) (hgT : sc.names.lookup T = some .globalImplicit := by rfl) (hn : T ≠ "__name__" := by decide) (hd : (T == ("__debug__" : Str)) = false := by decide)
    (he : ∀ env : Env, starEach [e, .Name T p2] env = (false, eval e env) :: starEach [.Name T p2] env := by intro _; rfl) (hpl : ∀ env : Env, (backTo pos (starEach [.Name T p2] env)).any (·.1) = false := by intro _; rfl) (he2 : ∀ env : Env, starEach [.Name T p2] env = (false, eval (.Name T p2) env) :: starEach [] env := by intro _; rfl) :
    We X K (.Call (.Name "isinstance" p) [e, .Name T p2] [] pos) ρ m Q := we_callB F (wr_cons (h.mono fun x m1 ⟨d, b, hx, hb, q⟩ => wr_cons (we_ty F hm hv (wr_nil (c_isa F hx hb q)) hgT hn hd) he2) he) B.isi bo_isi hg (by decide) (by decide) he hpl
theorem b_isiInt (F : Fam X P w K mg base N sc fv k) (B : Bt mg) {p2 : Pos} (h : We X K e ρ m fun x m1 => ∃ d, datOf m1 x = some d ∧ Q (.d (.bool d.isInt)) m1) (hg : sc.names.lookup ("isinstance" : Str) = some .globalImplicit := by rfl) (hgT : sc.names.lookup ("int" : Str) = some .globalImplicit := by rfl)
    (he : ∀ env : Env, starEach [e, .Name "int" p2] env = (false, eval e env) :: starEach [.Name "int" p2] env := by intro _; rfl) (hpl : ∀ env : Env, (backTo pos (starEach [.Name "int" p2] env)).any (·.1) = false := by intro _; rfl) : We X K (.Call (.Name "isinstance" p) [e, .Name "int" p2] [] pos) ρ m Q :=
  b_isi F B B.int bo_int (h.mono fun x m1 ⟨d, hx, q⟩ => ⟨d, _, hx, rfl, q⟩) hg hgT (by decide) (by decide) he hpl
theorem b_isiBool (F : Fam X P w K mg base N sc fv k) (B : Bt mg) {p2 : Pos} (h : We X K e ρ m fun x m1 => ∃ d, datOf m1 x = some d ∧ Q (.d (.bool d.isBool)) m1) (hg : sc.names.lookup ("isinstance" : Str) = some .globalImplicit := by rfl) (hgT : sc.names.lookup ("bool" : Str) = some .globalImplicit := by rfl)
    (he : ∀ env : Env, starEach [e, .Name "bool" p2] env = (false, eval e env) :: starEach [.Name "bool" p2] env := by intro _; rfl) (hpl : ∀ env : Env, (backTo pos (starEach [.Name "bool" p2] env)).any (·.1) = false := by intro _; rfl) : We X K (.Call (.Name "isinstance" p) [e, .Name "bool" p2] [] pos) ρ m Q :=
  b_isi F B B.bool bo_bool (h.mono fun x m1 ⟨d, hx, q⟩ => ⟨d, _, hx, rfl, q⟩) hg hgT (by decide) (by decide) he hpl
theorem b_isiTup (F : Fam X P w K mg base N sc fv k) (B : Bt mg) {p2 : Pos} (h : We X K e ρ m fun x m1 => ∃ d, datOf m1 x = some d ∧ Q (.d (.bool d.isTuple)) m1) (hg : sc.names.lookup ("isinstance" : Str) = some .globalImplicit := by rfl) (hgT : sc.names.lookup ("tuple" : Str) = some .globalImplicit := by rfl)
    (he : ∀ env : Env, starEach [e, .Name "tuple" p2] env = (false, eval e env) :: starEach [.Name "tuple" p2] env := by intro _; rfl) (hpl : ∀ env : Env, (backTo pos (starEach [.Name "tuple" p2] env)).any (·.1) = false := by intro _; rfl) : We X K (.Call (.Name "isinstance" p) [e, .Name "tuple" p2] [] pos) ρ m Q :=
  b_isi F B B.tuple bo_tuple (h.mono fun x m1 ⟨d, hx, q⟩ => ⟨d, _, hx, rfl, q⟩) hg hgT (by decide) (by decide) he hpl
theorem b_abs (F : Fam X P w K mg base N sc fv k) (B : Bt mg) (h : We X K e ρ m fun x m1 => ∃ i : Int, x = .d (.int i) ∧ Q (.d (.int (if i < 0 then -i else i))) m1) (hg : sc.names.lookup ("abs" : Str) = some .globalImplicit := by rfl) (he : ∀ env : Env, starEach [e] env = (false, eval e env) :: starEach [] env := by intro _; rfl) (hpl : ∀ env : Env, (backTo pos (starEach [] env)).any (·.1) = false := by intro _; rfl) :
    We X K (.Call (.Name "abs" p) [e] [] pos) ρ m Q := we_callB F (wr_cons (h.mono fun x m1 ⟨i, hx, q⟩ => wr_nil (by rw [hx]; exact c_abs q)) he) B.abs bo_abs hg (by decide) (by decide) he hpl
theorem b_intB (F : Fam X P w K mg base N sc fv k) (B : Bt mg) (h : We X K e ρ m fun x m1 => ∃ i : Bool, x = .d (.bool i) ∧ Q (.d (.int (if i then 1 else 0))) m1) (hg : sc.names.lookup ("int" : Str) = some .globalImplicit := by rfl) (he : ∀ env : Env, starEach [e] env = (false, eval e env) :: starEach [] env := by intro _; rfl) (hpl : ∀ env : Env, (backTo pos (starEach [] env)).any (·.1) = false := by intro _; rfl) :
    We X K (.Call (.Name "int" p) [e] [] pos) ρ m Q := we_callT F (wr_cons (h.mono fun x m1 ⟨i, hx, q⟩ => wr_nil (by rw [hx]; exact c_intB q)) he) B.int bo_int hg (by decide) (by decide) he hpl
theorem b_tup (F : Fam X P w K mg base N sc fv k) (B : Bt mg) (h : We X K e ρ m fun x m1 => ∃ ds : List PyData, seqOf m1 x = some (ds.map .d) ∧ Q (.d (.tuple ds)) m1) (hg : sc.names.lookup ("tuple" : Str) = some .globalImplicit := by rfl) (he : ∀ env : Env, starEach [e] env = (false, eval e env) :: starEach [] env := by intro _; rfl) (hpl : ∀ env : Env, (backTo pos (starEach [] env)).any (·.1) = false := by intro _; rfl) :
    We X K (.Call (.Name "tuple" p) [e] [] pos) ρ m Q := we_callT F (wr_cons (h.mono fun x m1 ⟨ds, hx, q⟩ => wr_nil (c_tup F hx q)) he) B.tuple bo_tuple hg (by decide) (by decide) he hpl
theorem b_lst (F : Fam X P w K mg base N sc fv k) (B : Bt mg) (h : We X K e ρ m fun x m1 => ∃ xs, seqOf m1 x = some xs ∧ NewL xs m1 Q) (hg : sc.names.lookup ("list" : Str) = some .globalImplicit := by rfl) (he : ∀ env : Env, starEach [e] env = (false, eval e env) :: starEach [] env := by intro _; rfl) (hpl : ∀ env : Env, (backTo pos (starEach [] env)).any (·.1) = false := by intro _; rfl) :
    We X K (.Call (.Name "list" p) [e] [] pos) ρ m Q := we_callT F (wr_cons (h.mono fun x m1 ⟨ds, hx, q⟩ => wr_nil (c_lst F hx q)) he) B.list bo_list hg (by decide) (by decide) he hpl
theorem b_min2 (F : Fam X P w K mg base N sc fv k) (B : Bt mg) (h : We X K a ρ m fun x m1 => We X K b ρ m1 fun y m2 => ∃ i j : Int, x = .d (.int i) ∧ y = .d (.int j) ∧ Q (.d (.int (if j < i then j else i))) m2) (hg : sc.names.lookup ("min" : Str) = some .globalImplicit := by rfl) (he : ∀ env : Env, starEach [a, b] env = (false, eval a env) :: starEach [b] env := by intro _; rfl) (he2 : ∀ env : Env, starEach [b] env = (false, eval b env) :: starEach [] env := by intro _; rfl) (hpl : ∀ env : Env, (backTo pos (starEach [b] env)).any (·.1) = false := by intro _; rfl) :
    We X K (.Call (.Name "min" p) [a, b] [] pos) ρ m Q := we_callB F (wr_cons (h.mono fun x m1 h2 => wr_cons (h2.mono fun y m2 ⟨i, j, hx, hy, q⟩ => wr_nil (by rw [hx, hy]; exact c_min2 F q)) he2) he) B.min bo_min hg (by decide) (by decide) he hpl
theorem b_min1 (F : Fam X P w K mg base N sc fv k) (B : Bt mg) (h : We X K e ρ m fun x m1 => ∃ d ds, lstOf m1 x = some ((d :: ds).map .d) ∧ PySem.W.AlikeAll (d :: ds) ∧ PyData.plainAll (d :: ds) = true ∧ PyData.depthAll (d :: ds) ≤ 100 ∧ Q (.d (PySem.W.minD d ds)) m1) (hg : sc.names.lookup ("min" : Str) = some .globalImplicit := by rfl) (he : ∀ env : Env, starEach [e] env = (false, eval e env) :: starEach [] env := by intro _; rfl) (hpl : ∀ env : Env, (backTo pos (starEach [] env)).any (·.1) = false := by intro _; rfl) :
    We X K (.Call (.Name "min" p) [e] [] pos) ρ m Q := we_callB F (wr_cons (h.mono fun x m1 ⟨d, ds, hx, h1, h2, h3, q⟩ => wr_nil (c_minD F hx h1 h2 h3 q)) he) B.min bo_min hg (by decide) (by decide) he hpl
theorem b_sorted (F : Fam X P w K mg base N sc fv k) (B : Bt mg) (h : We X K e ρ m fun x m1 => ∃ ds, lstOf m1 x = some (ds.map .d) ∧ PySem.W.AllAlike ds ∧ PySem.W.Sortable ds ∧ ds.length ≤ 100000 ∧ (∀ d ∈ ds, d.depth ≤ 100) ∧ NewL ((sortD ds).map .d) m1 Q) (hg : sc.names.lookup ("sorted" : Str) = some .globalImplicit := by rfl) (he : ∀ env : Env, starEach [e] env = (false, eval e env) :: starEach [] env := by intro _; rfl) (hpl : ∀ env : Env, (backTo pos (starEach [] env)).any (·.1) = false := by intro _; rfl) :
    We X K (.Call (.Name "sorted" p) [e] [] pos) ρ m Q := we_callB F (wr_cons (h.mono fun x m1 ⟨ds, hx, h1, h2, h3, h4, q⟩ => wr_nil (c_sorted F hx h1 h2 h3 h4 q)) he) B.sorted bo_sorted hg (by decide) (by decide) he hpl
end
end Wn
set_option Elab.async false
set_option linter.all false
set_option maxRecDepth 100000
set_option maxHeartbeats 2000000
set_option autoImplicit false
namespace Wn
open PySem L2
inductive At : List Str → Nat → Str → Prop
  | z {x : Str} {r : List Str} : At (x :: r) 0 x
  | s {x y : Str} {r : List Str} {i : Nat} : At r i x → At (y :: r) (i + 1) x
theorem At.get {N : List Str} {i : Nat} {x : Str} (h : At N i x) : N[i]? = some x := by
  induction h with
  | z => rfl
  | s _ ih => simpa using ih
section
variable {ι : Type} {X : ι → Cx} {P : Program} {w : World} {K : PySem.W.Frag} {mg : Str → Option Value} {base : Heap} {N : List Str} {sc : Scope} {fv : Str → Bool} {k : Nat} {ρ : Ro} {m : Mm} {Q Q' : QV} {D : Ed} {a b c e tg it elt : Expr} {pos p : Pos} {x y z : MV} {i : Nat} {nm : Str}
theorem we_varA (F : Fam X P w K mg base N sc fv k) (hN : At N i nm) (hr : ρ[i]? = some (some x)) (q : Q x m) (hv : Vis sc nm := by first | exact Or.inl rfl | exact Or.inr (Or.inl rfl) | exact Or.inr (Or.inr rfl))
    (hd : (nm == ("__debug__" : Str)) = false := by decide) (hcd : (nm == ("__classdict__" : Str)) = false := by decide) : We X K (.Name nm pos) ρ m Q := we_var F i hr q hN.get hv hd hcd
theorem wg_nameA (F : Fam X P w K mg base N sc fv k) (hN : At N i nm) {vs : Nat → Prop} {Q : Ro → Mm → Prop} (q : Q (ρ.set i (some x)) m) (hv : vs i := by first | trivial | decide) (hl : Loc sc nm := by first | exact Or.inl rfl | exact Or.inr rfl)
    (hf : fv nm = true ∨ sc.names.lookup nm = some .local := by first | exact Or.inl rfl | exact Or.inr rfl) : Wg X K vs (.Name nm pos) x ρ m Q := wg_name F i q hv hN.get hl hf
theorem ws_setA (F : Fam X P w K mg base N sc fv k) {p' : Pos} (hN : At N i nm) (h : We X K e ρ m fun x m1 => D.nx (ρ.set i (some x)) m1) (hs : ∀ env : Env, swapsWith e (some (.Name nm p')) pos.line env = pure false := by intro _; rfl) (hl : Loc sc nm := by first | exact Or.inl rfl | exact Or.inr rfl)
    (hf : fv nm = true ∨ sc.names.lookup nm = some .local := by first | exact Or.inl rfl | exact Or.inr rfl) : Ws1 X K (.Assign [.Name nm p'] e pos) ρ m D := ws_set F i h hs hN.get hl hf
theorem wo_none {Q : Option Int → Mm → Prop} (q : Q none m) : Wo X K none ρ m Q := q
theorem wo_some {Q : Option Int → Mm → Prop} (h : We X K e ρ m fun x m1 => ∃ i : Int, x = .d (.int i) ∧ Q (some i) m1) : Wo X K (some e) ρ m Q := h
end
theorem enumD_some {ds : List PyData} {i : Nat} {x : MV} (h : (enumD ds)[i]? = some x) : ∃ d, ds[i]? = some d ∧ x = .d (.tuple [.int (i : Nat), d]) := by
  have hi : i < ds.length := by
    by_cases z : i < ds.length
    · exact z
    · rw [List.getElem?_eq_none (by simp [enumD]; omega)] at h; cases h
  have e : ds[i]? = some ds[i] := List.getElem?_eq_getElem hi
  rw [enumD_get e] at h
  exact ⟨_, e, (Option.some.inj h).symm⟩
theorem enumD_len (ds : List PyData) : (enumD ds).length = ds.length := by simp [enumD]
theorem last_get (m : Mm) (o : MO) : (m ++ [o])[m.length]? = some o := by simp
theorem last_set (m : Mm) (o o' : MO) : (m ++ [o]).set m.length o' = m ++ [o'] := by
  rw [List.set_append_right _ _ (Nat.le_refl _)]; simp
theorem last_take (m t : Mm) : (m ++ t).take m.length = m := by simp
theorem app_get {m t : Mm} {i : Nat} {o : MO} (h : m[i]? = some o) : (m ++ t)[i]? = some o := by
  rw [List.getElem?_append_left ((List.getElem?_eq_some_iff.mp h).1)]; exact h
theorem seqOf_app {m t : Mm} {x : MV} {xs : List MV} (h : seqOf m x = some xs) : seqOf (m ++ t) x = some xs := by
  cases x with
  | d y => cases y <;> exact h
  | t _ => exact h
  | s _ => exact h
  | x _ => exact h
  | e _ _ _ => exact h
  | pr _ _ => exact h
  | r i =>
    have h : (match m[i]? with | some (.lst xs) => some xs | _ => none) = some xs := h
    show (match (m ++ t)[i]? with | some (.lst xs) => some xs | _ => none) = some xs
    cases e : m[i]? with
    | none => rw [e] at h; cases h
    | some o => rw [app_get e]; rw [e] at h; exact h
theorem seqOf_r {m : Mm} {i : Nat} {xs : List MV} (h : m[i]? = some (.lst xs)) : seqOf m (.r i) = some xs := by
  show (match m[i]? with | some (.lst xs) => some xs | _ => none) = some xs
  rw [h]
theorem lstOf_r {m : Mm} {i : Nat} {xs : List MV} (h : m[i]? = some (.lst xs)) : lstOf m (.r i) = some xs := by
  show (match m[i]? with | some (.lst xs) => some xs | _ => none) = some xs
  rw [h]
theorem datOf_r {m : Mm} {i : Nat} {ds : List PyData} (h : m[i]? = some (.lst (ds.map .d))) : datOf m (.r i) = some (.list ds) := by
  show (match m[i]? with | some (.lst xs) => (allD xs).map PyData.list | _ => none) = some (.list ds)
  rw [h]
  show (allD (ds.map .d)).map PyData.list = _
  rw [allD_map]
  rfl
/-- a def's end: the store as it was at the start -/
theorem ret_drop {m t : Mm} {Q : QV} {x : MV} (hs : Scd m) (hx : x.sc m.length) (q : Q x m) : Ret m.length Q x (m ++ t) := .inr (.inl ⟨by rw [last_take]; exact hs, hx, by rw [last_take]; exact q⟩)
theorem atI_of {α : Type} {xs : List α} {k : Nat} {i : Int} {y : α} (h : xs[k]? = some y) (hi : i = (k : Int)) : atI xs i = some y := by
  subst hi
  have hk : k < xs.length := (List.getElem?_eq_some_iff.mp h).1
  unfold atI ixN
  rw [if_pos (by omega), if_pos (by omega)]
  simpa using h
theorem ixN_of {n k : Nat} {i : Int} (h : k < n) (hi : i = (k : Int)) : ixN n i = some k := by
  subst hi
  unfold ixN
  rw [if_pos (by omega), if_pos (by omega)]
  simp
end Wn
set_option Elab.async false
set_option linter.all false
set_option maxRecDepth 100000
set_option maxHeartbeats 2000000
set_option autoImplicit false
namespace Wn
open PySem L2
theorem bo_all : bootBuiltins "all" = some (.builtin "all") := by decide +kernel
section
variable {ι : Type} {X : ι → Cx} {P : Program} {w : World} {K : PySem.W.Frag} {mg : Str → Option Value} {base : Heap} {N : List Str} {sc : Scope} {fv : Str → Bool} {k : Nat} {ρ : Ro} {m : Mm} {Q : QV} {e : Expr} {pos p : Pos} {x : MV}
theorem b_all (F : Fam X P w K mg base N sc fv k) (hm : mg "all" = none) (h : We X K e ρ m fun x m1 => ∃ bs : List Bool, lstOf m1 x = some (bs.map fun b => .d (.bool b)) ∧ Q (.d (.bool (bs.all id))) m1) (hg : sc.names.lookup ("all" : Str) = some .globalImplicit := by rfl) (he : ∀ env : Env, starEach [e] env = (false, eval e env) :: starEach [] env := by intro _; rfl) (hpl : ∀ env : Env, (backTo pos (starEach [] env)).any (·.1) = false := by intro _; rfl) :
    We X K (.Call (.Name "all" p) [e] [] pos) ρ m Q := we_callB F (wr_cons (h.mono fun x m1 ⟨bs, hx, q⟩ => wr_nil (c_all F hx q)) he) hm bo_all hg (by decide) (by decide) he hpl
end
end Wn
set_option Elab.async false
set_option linter.all false
set_option maxRecDepth 100000
set_option maxHeartbeats 2000000
set_option autoImplicit false
namespace Wn
open PySem L2
/-! ### dicts in the store -/
def valM (kvs : List (Key × MV)) (k : Key) : Option MV := (kvs.find? fun kv => decide (kv.1 = k)).map (·.2)
def putMK (kvs : List (Key × MV)) (k : Key) (v : MV) : List (Key × MV) :=
  if (kvs.any fun kv => decide (kv.1 = k)) = true then kvs.map (fun kv => if kv.1 = k then (kv.1, v) else kv) else kvs ++ [(k, v)]
def dropMK (kvs : List (Key × MV)) (k : Key) : List (Key × MV) := kvs.filter fun kv => decide (kv.1 ≠ k)
def keyM (k : Key) : MV := .d (keyD k)
section
variable {K : PySem.W.Frag} {π : List Addr} {G H : Hp}
theorem rkv_val {k : Key} : ∀ {fs : List (Key × V)} {gs : List (Key × MV)}, Paired (Rkv K G π) fs gs → (valM gs k = none → valV fs k = none) ∧ ∀ y, valM gs k = some y → ∃ v, valV fs k = some v ∧ Rv K G π v y
  | _, _, .nil => ⟨fun _ => rfl, fun _ h => by cases h⟩
  | _, _, .cons (a := p) (b := q) r t => by
    obtain ⟨i1, i2⟩ := rkv_val (k := k) t
    obtain ⟨e, rv⟩ := r
    by_cases h : q.1 = k
    · have e1 : ∀ l, valM (q :: l) k = some q.2 := fun l => by simp [valM, List.find?_cons, h]
      refine ⟨fun z => (by rw [e1] at z; cases z), fun y z => ?_⟩
      rw [e1] at z; cases z
      exact ⟨p.2, valV_pos (e.trans h), rv⟩
    · have e1 : ∀ l, valM (q :: l) k = valM l k := fun l => by simp [valM, List.find?_cons, h]
      have e2 : ¬ p.1 = k := fun z => h (e.symm.trans z)
      refine ⟨fun z => by rw [valV_neg e2]; exact i1 (by rw [← e1]; exact z), fun y z => ?_⟩
      rw [e1] at z
      rw [valV_neg e2]; exact i2 y z
theorem rkv_any {k : Key} : ∀ {fs : List (Key × V)} {gs : List (Key × MV)}, Paired (Rkv K G π) fs gs → (fs.any fun kv => decide (kv.1 = k)) = gs.any fun kv => decide (kv.1 = k)
  | _, _, .nil => rfl
  | _, _, .cons r t => by rw [List.any_cons, List.any_cons, rkv_any t, r.1]
theorem rkv_repl {k : Key} {v : V} {x : MV} (rx : Rv K G π v x) : ∀ {fs : List (Key × V)} {gs : List (Key × MV)}, Paired (Rkv K G π) fs gs → Paired (Rkv K G π) (fs.map fun kv => if kv.1 = k then (kv.1, v) else kv) (gs.map fun kv => if kv.1 = k then (kv.1, x) else kv)
  | _, _, .nil => .nil
  | _, _, .cons (a := p) (b := q) r t => by
    rw [List.map_cons, List.map_cons]
    refine .cons ?_ (rkv_repl rx t)
    obtain ⟨h1, h2⟩ := r
    by_cases e : p.1 = k
    · rw [if_pos e, if_pos (h1.symm.trans e)]; exact ⟨h1, rx⟩
    · rw [if_neg e, if_neg (fun z => e (h1.trans z))]; exact ⟨h1, h2⟩
theorem rkv_put {k : Key} {v : V} {x : MV} (rx : Rv K G π v x) {fs : List (Key × V)} {gs : List (Key × MV)} (h : Paired (Rkv K G π) fs gs) : Paired (Rkv K G π) (putK fs k v) (putMK gs k x) := by
  unfold putK putMK
  rw [rkv_any h]
  by_cases e : (gs.any fun kv => decide (kv.1 = k)) = true
  · rw [if_pos e, if_pos e]; exact rkv_repl rx h
  · rw [if_neg e, if_neg e]; exact Paired.snoc h ⟨rfl, rx⟩
theorem rkv_drop {k : Key} : ∀ {fs : List (Key × V)} {gs : List (Key × MV)}, Paired (Rkv K G π) fs gs → Paired (Rkv K G π) (dropK fs k) (dropMK gs k)
  | _, _, .nil => .nil
  | _, _, .cons (a := p) (b := q) r t => by
    have ih := rkv_drop (k := k) t
    unfold dropK dropMK at ih ⊢
    rw [List.filter_cons, List.filter_cons]
    by_cases e : p.1 = k
    · rw [if_neg (by simp [e]), if_neg (by simp [r.1.symm.trans e])]; exact ih
    · have e' : ¬ q.1 = k := fun z => e (r.1.trans z)
      rw [if_pos (by simp [e]), if_pos (by simp [e'])]; exact .cons r ih
theorem rkv_keys : ∀ {fs : List (Key × V)} {gs : List (Key × MV)}, Paired (Rkv K G π) fs gs → fs.map (·.1) = gs.map (·.1)
  | _, _, .nil => rfl
  | _, _, .cons r t => by rw [List.map_cons, List.map_cons, rkv_keys t, r.1]
theorem key_real {v : V} {k : Key} (h : Rv K G π v (keyM k)) : v = kV k := by
  cases k with
  | inl i => exact Da.intI h
  | inr x => exact Da.strI h
theorem key_rv (k : Key) : Rv K G π (kV k) (keyM k) := by
  cases k with
  | inl i => exact Da.int i
  | inr x => exact Da.str x
end
section
variable {X : Cx}
theorem ix_dctR (hu : X.A.units + 1 < cLine) : IxR X (fun x y H Q => ∃ a v, x = .ref a ∧ DGet H a y (some v) ∧ Q v H) := by
  intro value slice pins s σ H x y v u Q I rx ry h hs
  obtain ⟨a, z, rfl, g, q⟩ := h
  obtain rfl : v = Value.ref a := rx
  exact PyProof.Rows.tail_any (dict_typeIs I g) PySem.F.slot_dict_getitem.lookup (d_getItem hu I g ry fun w' s3 I3 rw' => ⟨z, H, I3, rw', q⟩) hs
theorem op_dinR (hu : X.A.units + 1 < cLine) : OpR X (compareOp .In) (fun x y H Q => ∃ a o, y = .ref a ∧ DGet H a x o ∧ Q (.bl o.isSome) H) := by
  intro pins s σ H x y v u Q I rx ry h
  obtain ⟨a, o, rfl, g, q⟩ := h
  obtain rfl : u = Value.ref a := ry
  exact d_in hu I g rx fun s3 I3 => ⟨.bl o.isSome, H, I3, rfl, q⟩
theorem op_dnotinR (hu : X.A.units + 1 < cLine) : OpR X (compareOp .NotIn) (fun x y H Q => ∃ a o, y = .ref a ∧ DGet H a x o ∧ Q (.bl (!o.isSome)) H) := by
  intro pins s σ H x y v u Q I rx ry h
  obtain ⟨a, o, rfl, g, q⟩ := h
  obtain rfl : u = Value.ref a := ry
  exact d_notIn hu I g rx fun s3 I3 => ⟨.bl (!o.isSome), H, I3, rfl, q⟩
end
section
variable {ι : Type} {X : ι → Cx} {P : Program} {w : World} {K : PySem.W.Frag} {mg : Str → Option Value} {base : Heap} {N : List Str} {sc : Scope} {fv : Str → Bool} {k : Nat} {ρ : Ro} {m : Mm} {Q : QV} {a b e f : Expr} {pos p : Pos} {x y : MV}
theorem dct_real {π : List Addr} {G H : Hp} {v : V} {i : Nat} {gs : List (Key × MV)} (hk : Hk K π G H m) (rv : Rv K G π v (.r i)) (hi : m[i]? = some (.dct gs)) : ∃ a fs, v = .ref a ∧ π[i]? = some a ∧ H a = some (.dK fs) ∧ Paired (Rkv K G π) fs gs := by
  obtain ⟨a, ha, rfl⟩ := rv
  obtain ⟨a', u, h1, h2, fs, eu, rs⟩ := hk.obj i _ hi
  rw [ha] at h1; cases h1
  subst eu
  exact ⟨a, fs, rfl, ha, h2, rs⟩
theorem dget_real {π : List Addr} {G H : Hp} {a : Addr} {fs : List (Key × V)} {gs : List (Key × MV)} {kk : Key} (h : H a = some (.dK fs)) (r : Paired (Rkv K G π) fs gs) : ∃ o, DGet H a (kV kk) o ∧ (match valM gs kk with | none => o = none | some y => ∃ v, o = some v ∧ Rv K G π v y) := by
  refine ⟨valV fs kk, DGet.k h, ?_⟩
  obtain ⟨h1, h2⟩ := rkv_val (k := kk) r
  cases e : valM gs kk with
  | none => exact h1 e
  | some y => obtain ⟨v, hv, rv⟩ := h2 y e; exact ⟨v, hv, rv⟩
theorem newd {π : List Addr} {G H : Hp} {R : VK} {pa : Addr} {fs : List (Key × V)} {gs : List (Key × MV)} (hk : Hk K π G H m) (hp : H pa = none) (r : Paired (Rkv K G π) fs gs) (q : Q (.r m.length) (m ++ [.dct gs])) (wv : Wv K π G H Q R) : R (.ref pa) (upd H pa (.dK fs)) := by
  have e3 : Xt π G H (π ++ [pa]) G (upd H pa (.dK fs)) := Xt.alloc hp
  have mo : ∀ (i : Nat) (c : Addr), π[i]? = some c → (π ++ [pa])[i]? = some c := fun i c q => e3.get q
  refine wv _ (.r m.length) _ _ _ _ e3 (hk.alloc hp (show Rob K G (π ++ [pa]) (.dK fs) (.dct gs) from ⟨fs, rfl, Paired.mapP r fun _ _ z => ⟨z.1, z.2.mono (Same.refl G) mo⟩⟩)) ⟨pa, ?_, rfl⟩ q
  rw [List.getElem?_append_right (by rw [hk.len]; exact Nat.le_refl _)]
  simp [hk.len]
theorem we_dnew (q : Q (.r m.length) (m ++ [.dct []])) : We X K (.Dict [] [] pos) ρ m Q := fun π G σ H R hk sk wv =>
  ⟨_, fun _ => pe_dnewK, fun pa hp => newd hk hp .nil q wv⟩
theorem ix_dct (F : Fam X P w K mg base N sc fv k) {i : Nat} {kk : Key} {gs : List (Key × MV)} (hi : m[i]? = some (.dct gs)) (hv : valM gs kk = some y) (q : Q y m) : IxW X K (.r i) (keyM kk) m Q := fun π G H R u v hk ru rv wv => by
  obtain ⟨a, fs, rfl, _, hf, rs⟩ := dct_real hk ru hi
  obtain rfl := key_real rv
  obtain ⟨z, hz, rz⟩ := (rkv_val (k := kk) rs).2 y hv
  exact ⟨_, fun j => ix_dctR (un_of (F.room j) (by decide)), a, z, rfl, hz ▸ DGet.k hf, wv z y π G H m Xt.refl hk rz q⟩
theorem setw_dct (F : Fam X P w K mg base N sc fv k) {i : Nat} {kk : Key} {gs : List (Key × MV)} {Q : Mm → Prop} (hi : m[i]? = some (.dct gs)) (hl : gs.length < 100000) (q : Q (m.set i (.dct (putMK gs kk x)))) : SetW X K (.r i) (keyM kk) x m Q := fun π G H R ov iv v hk ro ri rv wx => by
  obtain ⟨a, fs, rfl, ha, hf, rs⟩ := dct_real hk ro hi
  obtain rfl := key_real ri
  refine ⟨_, fun j => set_dict (un_of (F.room j) (by decide)), a, _, rfl, DPut.k hf (by rw [Paired.length rs]; exact Nat.lt_of_lt_of_le hl (by decide)), wx π G _ _ (Xt.write (List.mem_of_getElem? ha)) (hk.write ha (show Rob K G π (.dK (putK fs kk v)) (.dct (putMK gs kk x)) from ⟨_, rfl, rkv_put rv rs⟩)) q⟩
theorem o_inD (F : Fam X P w K mg base N sc fv k) {i : Nat} {kk : Key} {gs : List (Key × MV)} (hi : m[i]? = some (.dct gs)) (q : Q (.d (.bool (valM gs kk).isSome)) m) : OpW X K (compareOp .In) (keyM kk) (.r i) m Q := fun π G H R u v hk ru rv wv => by
  obtain ⟨a, fs, rfl, ha, hf, rs⟩ := dct_real hk rv hi
  obtain rfl := key_real ru
  obtain ⟨o, hd, ho⟩ := dget_real (kk := kk) hf rs
  refine ⟨_, fun j => op_dinR (un_of (F.room j) (by decide)), a, o, rfl, hd, wv _ (.d (.bool _)) π G H m Xt.refl hk ?_ q⟩
  cases e : valM gs kk with
  | none => rw [e] at ho; subst ho; exact Da.bl _
  | some y => rw [e] at ho; obtain ⟨z, rfl, _⟩ := ho; exact Da.bl _
theorem o_notInD (F : Fam X P w K mg base N sc fv k) {i : Nat} {kk : Key} {gs : List (Key × MV)} (hi : m[i]? = some (.dct gs)) (q : Q (.d (.bool (!(valM gs kk).isSome))) m) : OpW X K (compareOp .NotIn) (keyM kk) (.r i) m Q := fun π G H R u v hk ru rv wv => by
  obtain ⟨a, fs, rfl, ha, hf, rs⟩ := dct_real hk rv hi
  obtain rfl := key_real ru
  obtain ⟨o, hd, ho⟩ := dget_real (kk := kk) hf rs
  refine ⟨_, fun j => op_dnotinR (un_of (F.room j) (by decide)), a, o, rfl, hd, wv _ (.d (.bool _)) π G H m Xt.refl hk ?_ q⟩
  cases e : valM gs kk with
  | none => rw [e] at ho; subst ho; exact Da.bl _
  | some y => rw [e] at ho; obtain ⟨z, rfl, _⟩ := ho; exact Da.bl _
theorem we_dget (F : Fam X P w K mg base N sc fv k) {o : Expr} {apos : Pos} (h : We X K o ρ m fun x m1 => ∃ i gs, x = .r i ∧ m1[i]? = some (.dct gs) ∧ We X K e ρ m1 fun y m2 => ∃ gs' kk, m2[i]? = some (.dct gs') ∧ y = keyM kk ∧ Q ((valM gs' kk).getD (.d .none)) m2)
    (hM : ∀ j, M1 (X j) o "get" apos e pos := by intro _; exact ⟨rfl, rfl, rfl, rfl⟩) : We X K (.Call (.Attribute o "get" apos) [e] [] pos) ρ m Q := fun π G σ H R hk sk wv => by
  refine ⟨_, fun j => pe_dget1 (un_of (F.room j) (by decide)) (teOf X o j) (teOf X e j) (hM j), h π G σ H _ hk sk fun u x π1 G1 H1 m1 e1 hk1 ru ⟨i, gs, ex, hi, q1⟩ => ?_⟩
  subst ex
  obtain ⟨a, fs, rfl, ha, hf, rs⟩ := dct_real hk1 ru hi
  refine ⟨a, rfl, .inl ⟨fs, .inl hf⟩, q1 π1 G1 σ H1 _ hk1 (sk.xt e1) fun v y π2 G2 H2 m2 e2 hk2 rv ⟨gs', kk, hi', ey, q2⟩ => ?_⟩
  subst ey
  obtain ⟨a', fs', ea, ha', hf', rs'⟩ := dct_real hk2 (ru.xt e2) hi'
  cases ea
  obtain rfl := key_real rv
  obtain ⟨o', hd, ho⟩ := dget_real (kk := kk) hf' rs'
  refine ⟨o', hd, wv _ _ π2 G2 H2 m2 (e1.trans e2) hk2 ?_ q2⟩
  cases e : valM gs' kk with
  | none => rw [e] at ho; subst ho; exact Da.non
  | some y => rw [e] at ho; obtain ⟨z, rfl, rz⟩ := ho; exact rz
theorem we_dpop (F : Fam X P w K mg base N sc fv k) {o : Expr} {apos : Pos} (h : We X K o ρ m fun x m1 => ∃ i gs, x = .r i ∧ m1[i]? = some (.dct gs) ∧ We X K e ρ m1 fun y m2 => We X K f ρ m2 fun z m3 => ∃ gs' kk, m3[i]? = some (.dct gs') ∧ y = keyM kk ∧
      (match valM gs' kk with | none => Q z m3 | some v => Q v (m3.set i (.dct (dropMK gs' kk)))))
    (hM : ∀ j, M2 (X j) o "pop" apos e f pos := by intro _; exact ⟨rfl, rfl, rfl, rfl⟩) : We X K (.Call (.Attribute o "pop" apos) [e, f] [] pos) ρ m Q := fun π G σ H R hk sk wv => by
  refine ⟨_, fun j => pe_dpop2 (teOf X o j) (teOf X e j) (teOf X f j) (hM j), h π G σ H _ hk sk fun u x π1 G1 H1 m1 e1 hk1 ru ⟨i, gs, ex, hi, q1⟩ => ?_⟩
  subst ex
  obtain ⟨a, fs, rfl, ha, hf, rs⟩ := dct_real hk1 ru hi
  refine ⟨a, rfl, .inl ⟨fs, .inl hf⟩, q1 π1 G1 σ H1 _ hk1 (sk.xt e1) fun v y π2 G2 H2 m2 e2 hk2 rv q2 => q2 π2 G2 σ H2 _ hk2 (sk.xt (e1.trans e2)) fun v3 z π3 G3 H3 m3 e3 hk3 rz ⟨gs', kk, hi', ey, q3⟩ => ?_⟩
  subst ey
  obtain ⟨a', fs', ea, ha', hf', rs'⟩ := dct_real hk3 (ru.xt (e2.trans e3)) hi'
  cases ea
  obtain rfl := key_real rv
  obtain ⟨h1, h2⟩ := rkv_val (k := kk) rs'
  have e13 := (e1.trans e2).trans e3
  cases hv : valM gs' kk with
  | none =>
    rw [hv] at q3
    have hn := h1 hv
    exact ⟨fs', kk, hf', rfl, fun v hv' => (by rw [hn] at hv'; cases hv'), fun _ => wv _ z π3 G3 H3 m3 e13 hk3 rz q3⟩
  | some y =>
    rw [hv] at q3
    obtain ⟨v', hv', rv'⟩ := h2 y hv
    refine ⟨fs', kk, hf', rfl, fun v hv2 => ?_, fun hn => by rw [hv'] at hn; cases hn⟩
    rw [hv'] at hv2; cases hv2
    exact wv _ y π3 G3 _ _ (e13.trans (Xt.write (List.mem_of_getElem? ha'))) (hk3.write ha' (show Rob K G3 π3 (.dK (dropK fs' kk)) (.dct (dropMK gs' kk)) from ⟨_, rfl, rkv_drop rs'⟩)) rv' q3
theorem c_dict {i : Nat} {gs : List (Key × MV)} (hi : m[i]? = some (.dct gs)) (q : Q (.r m.length) (m ++ [.dct gs])) : CaW X K (.type "dict") [.r i] m Q := fun π G H R vs hk rs wv => by
  obtain ⟨v, rfl, rv⟩ := rvs1 rs
  obtain ⟨a, fs, rfl, ha, hf, r⟩ := dct_real hk rv hi
  exact ⟨_, fun j => call_dictD, a, fs, rfl, .inl hf, fun pa hp => newd hk hp r q wv⟩
theorem keys_rvs {π : List Addr} {G : Hp} : ∀ {fs : List (Key × V)} {gs : List (Key × MV)}, Paired (Rkv K G π) fs gs → Rvs K G π (fs.map fun kv => kV kv.1) (gs.map fun kv => keyM kv.1)
  | _, _, .nil => .nil
  | _, _, .cons r t => by rw [List.map_cons, List.map_cons]; exact .cons (by rw [r.1]; exact key_rv _) (keys_rvs t)
theorem c_listD (F : Fam X P w K mg base N sc fv k) {i : Nat} {gs : List (Key × MV)} (hi : m[i]? = some (.dct gs)) (q : NewL (gs.map fun kv => keyM kv.1) m Q) : CaW X K (.type "list") [.r i] m Q := fun π G H R vs hk rs wv => by
  obtain ⟨v, rfl, rv⟩ := rvs1 rs
  obtain ⟨a, fs, rfl, ha, hf, r⟩ := dct_real hk rv hi
  exact ⟨_, fun j => call_listD (F.calm j), a, fs, rfl, .inl hf, fun pa hp => newl hk hp (keys_rvs r) q wv⟩
theorem ints_rvs {π : List Addr} {G : Hp} (ys : List Int) : Rvs K G π (ys.map V.int) (ys.map fun i => .d (.int i)) := by
  induction ys with
  | nil => exact .nil
  | cons y ys ih => exact .cons (Da.int y) ih
theorem rvs_ints {π : List Addr} {G : Hp} : ∀ {vs : List V} {ys : List Int}, Rvs K G π vs (ys.map fun i => .d (.int i)) → vs = ys.map V.int
  | _, [], h => by cases h; rfl
  | _, y :: ys, h => by
    cases h with
    | cons r t => rw [rvs_ints t, Da.intI r]; rfl
/-- the ints of a list, rising -/
def srtI (ks : List Int) : List Int := ks.mergeSort fun a b => decide (a ≤ b)
theorem srtI_perm (ks : List Int) : (srtI ks).Perm ks := List.mergeSort_perm ks _
theorem srtI_uniq {ks ys : List Int} (h1 : ys.Perm ks) (h2 : ys.Pairwise (· ≤ ·)) : ys = srtI ks := by
  have h3 : (srtI ks).Pairwise fun a b => decide (a ≤ b) = true := List.pairwise_mergeSort (fun a b c h1 h2 => by simp at *; omega) (fun a b => by simp; omega) ks
  refine List.Perm.eq_of_pairwise (le := fun a b : Int => a ≤ b) (fun a b _ _ h1 h2 => by omega) h2 (h3.imp fun h => by simpa using h) (h1.trans (srtI_perm ks).symm)
theorem c_sortedD (F : Fam X P w K mg base N sc fv k) {i : Nat} {gs : List (Key × MV)} {ks : List Int} (hi : m[i]? = some (.dct gs)) (hks : gs.map (·.1) = ks.map Sum.inl) (hl : ks.length < 64) (q : NewL ((srtI ks).map fun i => .d (.int i)) m Q) : CaW X K (.builtin "sorted") [.r i] m Q := fun π G H R vs hk rs wv => by
  obtain ⟨v, rfl, rv⟩ := rvs1 rs
  obtain ⟨a, fs, rfl, ha, hf, r⟩ := dct_real hk rv hi
  refine ⟨_, fun j => call_sortedDI (F.calm j), a, fs, ks, rfl, .inl hf, by rw [rkv_keys r]; exact hks, hl, fun ys pa h1 h2 hp => ?_⟩
  rw [srtI_uniq h1 h2]
  exact newl hk hp (ints_rvs _) q wv
theorem c_sortedI (F : Fam X P w K mg base N sc fv k) {ks : List Int} (hx : lstOf m x = some (ks.map fun i => .d (.int i))) (q : NewL ((srtI ks).map fun i => .d (.int i)) m Q) : CaW X K (.builtin "sorted") [x] m Q := fun π G H R vs hk rs wv => by
  obtain ⟨v, rfl, rv⟩ := rvs1 rs
  obtain ⟨a, us, rfl, hs, ru⟩ := lst_real hk rv hx
  obtain rfl := rvs_ints ru
  refine ⟨rSortedI K, fun j => F.cK j ▸ cr_sortedI, a, ks, rfl, SqL.of hs, fun ys pa h1 h2 hp => ?_⟩
  rw [srtI_uniq h1 h2]
  exact newl hk hp (ints_rvs _) q wv
theorem c_max2 (F : Fam X P w K mg base N sc fv k) {i j : Int} (q : Q (.d (.int (if j > i then j else i))) m) : CaW X K (.builtin "max") [.d (.int i), .d (.int j)] m Q := fun π G H R vs hk rs wv => by
  obtain ⟨v, u, rfl, rv, ru⟩ := rvs2 rs
  exact ⟨_, fun t => call_max2 (F.calm t), i, j, by rw [Da.intI rv, Da.intI ru], wv _ (.d (.int _)) π G H m Xt.refl hk (Da.int _) q⟩
theorem bo_max : bootBuiltins "max" = some (.builtin "max") := by decide +kernel
theorem bo_dict : bootBuiltins "dict" = some (.type "dict") := by decide +kernel
theorem bo_str : bootBuiltins "str" = some (.type "str") := by decide +kernel
theorem b_max2 (F : Fam X P w K mg base N sc fv k) (hm : mg "max" = none) (h : We X K a ρ m fun x m1 => We X K b ρ m1 fun y m2 => ∃ i j : Int, x = .d (.int i) ∧ y = .d (.int j) ∧ Q (.d (.int (if j > i then j else i))) m2) (hg : sc.names.lookup ("max" : Str) = some .globalImplicit := by rfl) (he : ∀ env : Env, starEach [a, b] env = (false, eval a env) :: starEach [b] env := by intro _; rfl) (he2 : ∀ env : Env, starEach [b] env = (false, eval b env) :: starEach [] env := by intro _; rfl) (hpl : ∀ env : Env, (backTo pos (starEach [b] env)).any (·.1) = false := by intro _; rfl) :
    We X K (.Call (.Name "max" p) [a, b] [] pos) ρ m Q := we_callB F (wr_cons (h.mono fun x m1 h2 => wr_cons (h2.mono fun y m2 ⟨i, j, ex, ey, q⟩ => by subst ex ey; exact wr_nil (c_max2 F q)) he2) he) hm bo_max hg (by decide) (by decide) he hpl
theorem b_dict (F : Fam X P w K mg base N sc fv k) (hm : mg "dict" = none) (h : We X K e ρ m fun x m1 => ∃ i gs, x = .r i ∧ m1[i]? = some (.dct gs) ∧ Q (.r m1.length) (m1 ++ [.dct gs])) (hg : sc.names.lookup ("dict" : Str) = some .globalImplicit := by rfl) (he : ∀ env : Env, starEach [e] env = (false, eval e env) :: starEach [] env := by intro _; rfl) (hpl : ∀ env : Env, (backTo pos (starEach [] env)).any (·.1) = false := by intro _; rfl) :
    We X K (.Call (.Name "dict" p) [e] [] pos) ρ m Q := we_callT F (wr_cons (h.mono fun x m1 ⟨i, gs, ex, hi, q⟩ => by subst ex; exact wr_nil (c_dict hi q)) he) hm bo_dict hg (by decide) (by decide) he hpl
theorem b_listD (F : Fam X P w K mg base N sc fv k) (B : Bt mg) (h : We X K e ρ m fun x m1 => ∃ i gs, x = .r i ∧ m1[i]? = some (.dct gs) ∧ NewL (gs.map fun kv => keyM kv.1) m1 Q) (hg : sc.names.lookup ("list" : Str) = some .globalImplicit := by rfl) (he : ∀ env : Env, starEach [e] env = (false, eval e env) :: starEach [] env := by intro _; rfl) (hpl : ∀ env : Env, (backTo pos (starEach [] env)).any (·.1) = false := by intro _; rfl) :
    We X K (.Call (.Name "list" p) [e] [] pos) ρ m Q := we_callT F (wr_cons (h.mono fun x m1 ⟨i, gs, ex, hi, q⟩ => by subst ex; exact wr_nil (c_listD F hi q)) he) B.list bo_list hg (by decide) (by decide) he hpl
theorem b_sortedD (F : Fam X P w K mg base N sc fv k) (B : Bt mg) (h : We X K e ρ m fun x m1 => ∃ i gs ks, x = .r i ∧ m1[i]? = some (.dct gs) ∧ gs.map (·.1) = ks.map Sum.inl ∧ ks.length < 64 ∧ NewL ((srtI ks).map fun i => .d (.int i)) m1 Q) (hg : sc.names.lookup ("sorted" : Str) = some .globalImplicit := by rfl) (he : ∀ env : Env, starEach [e] env = (false, eval e env) :: starEach [] env := by intro _; rfl) (hpl : ∀ env : Env, (backTo pos (starEach [] env)).any (·.1) = false := by intro _; rfl) :
    We X K (.Call (.Name "sorted" p) [e] [] pos) ρ m Q := we_callB F (wr_cons (h.mono fun x m1 ⟨i, gs, ks, ex, hi, hks, hl, q⟩ => by subst ex; exact wr_nil (c_sortedD F hi hks hl q)) he) B.sorted bo_sorted hg (by decide) (by decide) he hpl
theorem b_sortedI (F : Fam X P w K mg base N sc fv k) (B : Bt mg) (h : We X K e ρ m fun x m1 => ∃ ks : List Int, lstOf m1 x = some (ks.map fun i => .d (.int i)) ∧ NewL ((srtI ks).map fun i => .d (.int i)) m1 Q) (hg : sc.names.lookup ("sorted" : Str) = some .globalImplicit := by rfl) (he : ∀ env : Env, starEach [e] env = (false, eval e env) :: starEach [] env := by intro _; rfl) (hpl : ∀ env : Env, (backTo pos (starEach [] env)).any (·.1) = false := by intro _; rfl) :
    We X K (.Call (.Name "sorted" p) [e] [] pos) ρ m Q := we_callB F (wr_cons (h.mono fun x m1 ⟨ks, hx, q⟩ => wr_nil (c_sortedI F hx q)) he) B.sorted bo_sorted hg (by decide) (by decide) he hpl
/-- t + u of tuples of data, neither empty -/
theorem o_catT (F : Fam X P w K mg base N sc fv k) {xs ys : List PyData} (h1 : xs ≠ []) (h2 : ys ≠ []) (hl : xs.length + ys.length ≤ 1000) (q : Q (.d (.tuple (xs ++ ys))) m) : OpW X K (binaryOp .Add) (.d (.tuple xs)) (.d (.tuple ys)) m Q := fun π G H R u v hk ru rv wv => by
  obtain ⟨a, us, rfl, s1, r1⟩ := Da.tupI ru
  obtain ⟨b, vs, rfl, s2, r2⟩ := Da.tupI rv
  have n1 : us ≠ [] := fun z => by subst z; cases r1; exact h1 rfl
  have n2 : vs ≠ [] := fun z => by subst z; cases r2; exact h2 rfl
  refine ⟨rCatT K, fun j => F.cK j ▸ op_catT, a, b, us, vs, rfl, rfl, Same.tupq hk.sub s1, Same.tupq hk.sub s2, n1, by rw [r1.len, r2.len]; exact Nat.le_trans hl (by decide), fun z => absurd z n2, fun _ pa hp => newt hk hp (r1.append r2) q wv⟩
theorem we_extend (F : Fam X P w K mg base N sc fv k) {o : Expr} {apos : Pos} (h : We X K o ρ m fun y m1 => ∃ i xs, y = .r i ∧ m1[i]? = some (.lst xs) ∧ We X K e ρ m1 fun x m2 => ∃ xs' zs, m2[i]? = some (.lst xs') ∧ lstOf m2 x = some zs ∧ xs'.length + zs.length < 100000 ∧ Q (.d .none) (m2.set i (.lst (xs' ++ zs))))
    (hst : ∀ env : Env, starEach [e] env = (false, eval e env) :: starEach [] env := by intro _; rfl) (hbase : ∀ env : Env, attributeBase o "extend" env (eval o env) = eval o env := by intro _; rfl)
    (hfew : ∀ env : Env, ((backTo pos (starEach [e] env)).all (fun x => !x.1) && (backToKw pos (keywordEach [] env)).all (fun x => x.1.isSome) && decide ([e].length + ([] : List Keyword).length + (if ([] : List Keyword).isEmpty then 0 else 1) < 30)) = true := by intro _; rfl)
    (hline : (apos.endLine == pos.line) = true := by rfl) (hplain : ∀ env : Env, (backTo pos (starEach [] env)).any (·.1) = false := by intro _; rfl) :
    We X K (.Call (.Attribute o "extend" apos) [e] [] pos) ρ m Q := fun π G σ H R hk sk wv => by
  refine ⟨tBM K "list" rExtend (TeOf X o) (tCons (TeOf X e) tNil), fun j => F.cK j ▸ pe_bm PySem.F.plainAttrs_list PySem.F.slot_list_extend PySem.F.type_list_extend mt_extend (teOf X o j) (pa_cons (teOf X e j) pa_nil (hst _)) (hbase _) (hfew _) hline (hst _) (hplain _), h π G σ H _ hk sk fun v y π1 G1 H1 m1 e1 hk1 rv ⟨i, xs, ey, hi, q1⟩ => ?_⟩
  subst ey
  obtain ⟨a, ha, rfl⟩ := rv
  obtain ⟨a', u, h1, h2, us, eu, ru⟩ := hk1.obj i _ hi
  rw [ha] at h1; cases h1
  subst eu
  refine ⟨Or.inl ⟨rfl, us, SqL.of h2⟩, q1 π1 G1 σ H1 _ hk1 (sk.xt e1) fun z x π2 G2 H2 m2 e2 hk2 rz ⟨xs', zs, hi', hz, hl, q2⟩ => ?_⟩
  have ha2 := e2.get ha
  obtain ⟨a', u, h1', h2', us', eu, ru'⟩ := hk2.obj i _ hi'
  rw [ha2] at h1'; cases h1'
  subst eu
  obtain ⟨b, ws, rfl, hw, rw'⟩ := lst_real hk2 rz hz
  have e3 : Xt π2 G2 H2 π2 G2 (upd H2 a (.lst (us' ++ ws))) := Xt.write (List.mem_of_getElem? ha2)
  refine ⟨a, b, us', ws, rfl, rfl, h2', hw, by rw [Paired.length ru', Paired.length rw']; exact Nat.le_trans (Nat.le_of_lt hl) (by decide), ?_⟩
  exact wv _ (.d .none) π2 G2 _ _ ((e1.trans e2).trans e3) (hk2.write ha2 (show Rob K G2 π2 (.lst (us' ++ ws)) (.lst (xs' ++ zs)) from ⟨_, rfl, paired_append ru' rw'⟩)) Da.non q2
theorem we_make0 (F : Fam X P w K mg base N sc fv k) {k' : Nat} {C : Addr} {nm : Str} {S : List MV → Mm → QV → Prop} (M : Cak P w K mg base k' C nm S) (hk' : k' + 1 ≤ k)
    (h : S [.r m.length] (m ++ [.ins C []]) fun y m2 => y = .d .none ∧ Q (.r m.length) m2) (hg : sc.names.lookup nm = some .globalImplicit := by rfl)
    (hdb : (nm == ("__debug__" : Str)) = false := by decide) : We X K (.Call (.Name nm p) [] [] pos) ρ m Q := fun π G σ H R hk sk wv => by
  obtain ⟨f, fd, ps, ok, mk, hm, bn⟩ := M
  refine ⟨tMake C (spM K S) [] E0 tNil, fun j => ?_, fun x dx hx hdx ne => ?_⟩
  · have ok' : FnOk (X j).prog (X j).w (X j).K (X j).mg (X j).base CX0 k' f fd ps (spM K S) := by rw [F.cP, F.cW, F.cK, F.cM, F.cB]; exact ok
    exact pe_make0 (by rw [F.cK]; exact mk) ok' ((F.room j).mono hk') (F.gl hg j) (by rw [F.cM]; exact hm) (by rw [F.cK]; exact bn) .nil pass0 hdb
  · rw [List.append_nil]
    have hx' : upd H dx (.own x) x = none := by rw [upd_ne (Ne.symm ne)]; exact hx
    have hk2 : Hk K π G (upd H dx (.own x)) m := hk.grow (same_new hdx)
    have hk3 : Hk K (π ++ [x]) G (upd (upd H dx (.own x)) x (.ins C dx [])) (m ++ [.ins C []]) := hk2.alloc hx' (show Rob K G (π ++ [x]) (.ins C dx []) (.ins C []) from ⟨dx, [], rfl, .nil⟩)
    have ex : Xt π G H π G (upd H dx (.own x)) := ⟨Same.refl _, ⟨[], by simp, by simp⟩, fun a u h _ => by rw [upd_ne (ne_of_none h hdx)]; exact h, fun a h => by
      by_cases q : a = dx
      · subst q; rw [upd_same]; simp
      · rw [upd_ne q]; exact h, fun _ _ _ _ _ h => h⟩
    have e3 : Xt π G H (π ++ [x]) G (upd (upd H dx (.own x)) x (.ins C dx [])) := ex.trans (Xt.alloc hx')
    have rx : Rv K G (π ++ [x]) (.ref x) (.r m.length) := by
      refine ⟨x, ?_, rfl⟩
      rw [List.getElem?_append_right (by rw [hk.len]; exact Nat.le_refl _)]
      simp [hk.len]
    refine ⟨π ++ [x], G, m ++ [.ins C []], [.r m.length], _, hk3, .cons rx .nil, h, fun v y π4 G4 H4 m4 e4 hk4 ry ⟨ey, qy⟩ => ?_⟩
    subst ey
    exact ⟨Da.nonI ry, wv _ (.r m.length) π4 G4 H4 m4 (e3.trans e4) hk4 (rx.xt e4) qy⟩
theorem we_negI (h : We X K a ρ m fun x m1 => ∃ i : Int, x = .d (.int i) ∧ Q (.d (.int (-i))) m1) : We X K (.UnaryOp .USub a pos) ρ m Q := we_neg h fun _ => un_neg
theorem c_lenS (F : Fam X P w K mg base N sc fv k) {ns : List Int} (q : Q (.d (.int (ns.length : Nat))) m) : CaW X K (.builtin "len") [.s ns] m Q := fun π G H R vs hk rs wv => by
  obtain ⟨v, rfl, rv⟩ := rvs1 rs
  obtain ⟨a, rfl, hs⟩ := rv
  refine ⟨fun xs H Q => ∃ p ys, xs = [.ref p] ∧ (SqL K H p ys ∨ SqT K H p ys) ∧ Q (.int ys.length) H, fun j => F.cK j ▸ call_len_seq, a, _, rfl, .inl (hk.sub.seq hs), ?_⟩
  rw [List.length_map]
  exact wv _ (.d (.int _)) π G H m Xt.refl hk (Da.int _) q
theorem b_lenS (F : Fam X P w K mg base N sc fv k) (B : Bt mg) (h : We X K e ρ m fun x m1 => ∃ ns : List Int, x = .s ns ∧ Q (.d (.int (ns.length : Nat))) m1) (hg : sc.names.lookup ("len" : Str) = some .globalImplicit := by rfl) (he : ∀ env : Env, starEach [e] env = (false, eval e env) :: starEach [] env := by intro _; rfl) (hpl : ∀ env : Env, (backTo pos (starEach [] env)).any (·.1) = false := by intro _; rfl) :
    We X K (.Call (.Name "len" p) [e] [] pos) ρ m Q := we_callB F (wr_cons (h.mono fun x m1 ⟨ns, ex, q⟩ => by subst ex; exact wr_nil (c_lenS F q)) he) B.len bo_len hg (by decide) (by decide) he hpl
theorem ix_s (F : Fam X P w K mg base N sc fv k) {ns : List Int} {i n : Int} (hi : atI ns i = some n) (q : Q (.d (.int n)) m) : IxW X K (.s ns) (.d (.int i)) m Q := fun π G H R u v hk ru rv wv => by
  obtain ⟨a, rfl, hs⟩ := ru
  refine ⟨rIx K, fun j => F.cK j ▸ ix_seq, .inl ⟨a, ns.map V.int, i, .int n, rfl, Da.intI rv, hk.sub.seq hs, ?_, wv _ (.d (.int n)) π G H m Xt.refl hk (Da.int n) q⟩⟩
  unfold atI at hi ⊢
  rw [List.length_map]
  cases e : ixN ns.length i with
  | none => rw [e] at hi; cases hi
  | some j => rw [e] at hi; show (ns.map V.int)[j]? = some (.int n); rw [List.getElem?_map, show ns[j]? = some n from hi]; rfl
/-- more of the built-ins -/
structure Bx (mg : Str → Option Value) : Prop where
  all : mg "all" = none
  max : mg "max" = none
  dict : mg "dict" = none
  str : mg "str" = none
end
section
variable {ι : Type} {X : ι → Cx} {K : PySem.W.Frag} {ρ : Ro} {m : Mm} {D : Ed} {st : Stmt} {rest : List Stmt}
theorem ws_cut (R : Ro → Mm → Prop) (h : Ws1 X K st ρ m { D with nx := R }) (h2 : ∀ ρ' m', R ρ' m' → Ws X K rest ρ' m' D) : Ws X K (st :: rest) ρ m D := fun π G σ H D' hk sk wd =>
  ⟨_, fun j => pss_cons (tsOf X st j) (tssOf X rest j), h π G σ H _ hk sk ⟨fun σ' ρ' π' G' H' m' e hk' sk' q => h2 ρ' m' q π' G' σ' H' D' hk' sk' (wd.xt e), wd.rt, wd.bk, wd.ct, wd.ex⟩⟩
theorem map_get {α β : Type} {f : α → β} {xs : List α} {i : Nat} {y : β} (h : (xs.map f)[i]? = some y) : ∃ x, xs[i]? = some x ∧ y = f x := by
  rw [List.getElem?_map] at h
  cases e : xs[i]? with
  | none => rw [e] at h; cases h
  | some x => rw [e] at h; exact ⟨x, rfl, (Option.some.inj h).symm⟩
theorem take_one {α : Type} {xs : List α} {i : Nat} {x : α} (h : xs[i]? = some x) : xs.take (i + 1) = xs.take i ++ [x] := by
  obtain ⟨hi, e⟩ := List.getElem?_eq_some_iff.mp h
  rw [List.take_succ_eq_append_getElem hi, e]
end
end Wn
set_option Elab.async false
set_option linter.all false
set_option maxRecDepth 100000
set_option maxHeartbeats 2000000
set_option autoImplicit false
namespace Wn
open PySem L2
/-! ### range with a step -/
def stepM (lo c : Int) (n : Nat) : List MV := (List.range n).map fun i => .d (.int (lo + (i : Nat) * c))
theorem stepM_len (lo c : Int) (n : Nat) : (stepM lo c n).length = n := by simp [stepM]
theorem stepM_get {lo c : Int} {n i : Nat} (h : i < n) : (stepM lo c n)[i]? = some (.d (.int (lo + (i : Nat) * c))) := by simp [stepM, h]
theorem stepM_some {lo c : Int} {n i : Nat} {x : MV} (h : (stepM lo c n)[i]? = some x) : i < n ∧ x = .d (.int (lo + (i : Nat) * c)) := by
  have hi : i < n := by
    by_cases z : i < n
    · exact z
    · rw [List.getElem?_eq_none (by rw [stepM_len]; omega)] at h; cases h
  rw [stepM_get hi] at h
  exact ⟨hi, (Option.some.inj h).symm⟩
section
variable {ι : Type} {X : ι → Cx} {P : Program} {w : World} {K : PySem.W.Frag} {mg : Str → Option Value} {base : Heap} {N : List Str} {sc : Scope} {fv : Str → Bool} {k : Nat} {ρ : Ro} {m : Mm} {Q : QV} {a b c e tg : Expr} {pos p : Pos} {x y : MV} {π : List Addr} {G H : Hp}
theorem itok_step {lo c : Int} {n : Nat} : ItOk K π G H (Itc lo c n) (stepM lo c n) (fun _ => True) := fun π2 G2 H2 m2 e2 hk2 gd => by
  rw [stepM_len]
  refine ⟨fun i hi => hi, Nat.le_refl _, fun i v H3 hi y => ?_⟩
  obtain ⟨eh, ey⟩ := y
  subst eh ey
  exact ⟨_, G2, stepM_get hi, Xt.refl, hk2, Da.int _⟩
theorem wi_range3 (F : Fam X P w K mg base N sc fv k) {Q : List MV → (Mm → Prop) → Mm → Prop} (hm : mg "range" = none) (h : Wr X K [a, b, c] ρ m fun xs m1 => ∃ (i j d : Int) (n : Nat), xs = [.d (.int i), .d (.int j), .d (.int d)] ∧ RgC i j d n ∧ Q (stepM i d n) (fun _ => True) m1) (hg : sc.names.lookup ("range" : Str) = some .globalImplicit := by rfl)
    (hs : ∀ env : Env, starEach [a, b, c] env = (false, eval a env) :: starEach [b, c] env := by intro _; rfl) (hs2 : ∀ env : Env, (backTo pos (starEach [b, c] env)).any (·.1) = false := by intro _; rfl) : Wi X K tg (.Call (.Name "range" p) [a, b, c] [] pos) ρ m Q := fun π G σ H R hk sk wr =>
  ⟨_, fun j => pi_range3 (F.gl hg j) (by rw [F.cM]; exact hm) (taOf X [a, b, c] j) (hs _) (hs2 _), h π G σ H _ hk sk fun vs xs π1 G1 H1 m1 e1 hk1 rvs ⟨i, j, d, n, ex, rg, q⟩ => by
    rw [ex] at rvs
    cases rvs with
    | cons r t =>
      cases t with
      | cons r2 t2 =>
        cases t2 with
        | cons r3 t3 =>
          cases t3
          exact ⟨i, j, d, n, by rw [Da.intI r, Da.intI r2, Da.intI r3], rg, wr _ _ _ π1 G1 H1 m1 e1 hk1 itok_step q⟩⟩
end
end Wn
set_option Elab.async false
set_option linter.all false
set_option maxRecDepth 100000
set_option maxHeartbeats 2000000
set_option autoImplicit false
namespace Wn
open PySem L2
section
variable {ι : Type} {X : ι → Cx} {P : Program} {w : World} {K : PySem.W.Frag} {mg : Str → Option Value} {base : Heap} {N : List Str} {sc : Scope} {fv : Str → Bool} {k : Nat} {ρ : Ro} {m : Mm} {Q : QV} {a b e f : Expr} {pos p : Pos} {x y : MV}
theorem we_insert (F : Fam X P w K mg base N sc fv k) {o : Expr} {apos : Pos} (h : We X K o ρ m fun y m1 => ∃ i xs, y = .r i ∧ m1[i]? = some (.lst xs) ∧ We X K e ρ m1 fun z m2 => We X K f ρ m2 fun x m3 => ∃ (n : Nat) (xs' : List MV), z = .d (.int n) ∧ n ≤ 100000 ∧ m3[i]? = some (.lst xs') ∧ xs'.length < 100000 ∧ Q (.d .none) (m3.set i (.lst (xs'.take n ++ [x] ++ xs'.drop n))))
    (hst : ∀ env : Env, starEach [e, f] env = (false, eval e env) :: starEach [f] env := by intro _; rfl) (hst2 : ∀ env : Env, starEach [f] env = (false, eval f env) :: starEach [] env := by intro _; rfl) (hbase : ∀ env : Env, attributeBase o "insert" env (eval o env) = eval o env := by intro _; rfl)
    (hfew : ∀ env : Env, ((backTo pos (starEach [e, f] env)).all (fun x => !x.1) && (backToKw pos (keywordEach [] env)).all (fun x => x.1.isSome) && decide ([e, f].length + ([] : List Keyword).length + (if ([] : List Keyword).isEmpty then 0 else 1) < 30)) = true := by intro _; rfl)
    (hline : (apos.endLine == pos.line) = true := by rfl) (hplain : ∀ env : Env, (backTo pos (starEach [f] env)).any (·.1) = false := by intro _; rfl) :
    We X K (.Call (.Attribute o "insert" apos) [e, f] [] pos) ρ m Q := fun π G σ H R hk sk wv => by
  refine ⟨tBM K "list" _ (TeOf X o) (tCons (TeOf X e) (tCons (TeOf X f) tNil)), fun j => F.cK j ▸ pe_bm PySem.F.plainAttrs_list PySem.F.slot_list_insert PySem.F.type_list_insert mt_insert (teOf X o j) (pa_cons (teOf X e j) (pa_cons (teOf X f j) pa_nil (hst2 _)) (hst _)) (hbase _) (hfew _) hline (hst _) (hplain _), h π G σ H _ hk sk fun v y π1 G1 H1 m1 e1 hk1 rv ⟨i, xs, ey, hi, q1⟩ => ?_⟩
  subst ey
  obtain ⟨a, ha, rfl⟩ := rv
  obtain ⟨a', u, h1, h2, us, eu, ru⟩ := hk1.obj i _ hi
  rw [ha] at h1; cases h1
  subst eu
  refine ⟨Or.inl ⟨rfl, us, SqL.of h2⟩, q1 π1 G1 σ H1 _ hk1 (sk.xt e1) fun zv z π2 G2 H2 m2 e2 hk2 rz q2 => q2 π2 G2 σ H2 _ hk2 (sk.xt (e1.trans e2)) fun xv x π3 G3 H3 m3 e3 hk3 rx ⟨n, xs', ez, hn, hi', hl, q3⟩ => ?_⟩
  subst ez
  have ha3 := (e2.trans e3).get ha
  obtain ⟨a', u, h1', h2', us', eu, ru'⟩ := hk3.obj i _ hi'
  rw [ha3] at h1'; cases h1'
  subst eu
  have ez := Da.intI rz
  subst ez
  refine ⟨a, us', n, xv, rfl, rfl, h2', by rw [Paired.length ru']; exact Nat.lt_of_lt_of_le hl (by decide), by omega, by omega, ?_⟩
  have e4 : Xt π3 G3 H3 π3 G3 (upd H3 a (.lst (us'.take (n : Int).toNat ++ [xv] ++ us'.drop (n : Int).toNat))) := Xt.write (List.mem_of_getElem? ha3)
  refine wv _ (.d .none) π3 G3 _ _ (((e1.trans e2).trans e3).trans e4) (hk3.write ha3 (show Rob K G3 π3 (.lst (us'.take (n : Int).toNat ++ [xv] ++ us'.drop (n : Int).toNat)) (.lst (xs'.take n ++ [x] ++ xs'.drop n)) from ⟨_, rfl, ?_⟩)) Da.non q3
  rw [Int.toNat_natCast]
  exact paired_append (paired_append (paired_take _ ru') (.cons rx .nil)) (paired_drop _ ru')
theorem inV_ints (i : Int) : ∀ ks : List Int, inV (.int i) (ks.map V.int) = decide (i ∈ ks)
  | [] => by simp [inV]
  | k :: ks => by
    have ih := inV_ints i ks
    unfold inV at ih ⊢
    rw [List.map_cons, List.any_cons, ih]
    show ((k == i) || decide (i ∈ ks)) = _
    by_cases h : k = i
    · subst h; simp
    · have h' : ¬ i = k := fun z => h z.symm
      simp [h, h']
theorem ints_flat : ∀ ks : List Int, (ks.map V.int).all flatV = true
  | [] => rfl
  | k :: ks => by rw [List.map_cons, List.all_cons, ints_flat ks]; rfl
theorem o_notInI (F : Fam X P w K mg base N sc fv k) {i : Int} {ks : List Int} (hx : lstOf m x = some (ks.map fun i => .d (.int i))) (q : Q (.d (.bool (!decide (i ∈ ks)))) m) : OpW X K (compareOp .NotIn) (.d (.int i)) x m Q := fun π G H R u v hk ru rv wv => by
  obtain ⟨a, us, rfl, hs, rs⟩ := lst_real hk rv hx
  obtain rfl := rvs_ints rs
  refine ⟨rIn K true, fun j => F.cK j ▸ op_notIn_seq, a, _, rfl, .inl (SqL.of hs), by rw [Da.intI ru]; rfl, ints_flat ks, wv _ (.d (.bool _)) π G H m Xt.refl hk ?_ q⟩
  rw [Da.intI ru, inV_ints]
  exact Da.bl _
theorem c_maxI (F : Fam X P w K mg base N sc fv k) {ks : List Int} (hx : lstOf m x = some (ks.map fun i => .d (.int i))) (h0 : 0 < ks.length) (q : ∀ t : Int, t ∈ ks → (∀ y ∈ ks, y ≤ t) → Q (.d (.int t)) m) : CaW X K (.builtin "max") [x] m Q := fun π G H R vs hk rs wv => by
  obtain ⟨v, rfl, rv⟩ := rvs1 rs
  obtain ⟨a, us, rfl, hs, ru⟩ := lst_real hk rv hx
  obtain rfl := rvs_ints ru
  exact ⟨rMax K, fun j => F.cK j ▸ cr_max (F.calm j), a, ks, rfl, SqL.of hs, h0, fun t h1 h2 => wv _ (.d (.int t)) π G H m Xt.refl hk (Da.int t) (q t h1 h2)⟩
theorem b_maxI (F : Fam X P w K mg base N sc fv k) (hm : mg "max" = none) (h : We X K e ρ m fun x m1 => ∃ ks : List Int, lstOf m1 x = some (ks.map fun i => .d (.int i)) ∧ 0 < ks.length ∧ ∀ t : Int, t ∈ ks → (∀ y ∈ ks, y ≤ t) → Q (.d (.int t)) m1) (hg : sc.names.lookup ("max" : Str) = some .globalImplicit := by rfl) (he : ∀ env : Env, starEach [e] env = (false, eval e env) :: starEach [] env := by intro _; rfl) (hpl : ∀ env : Env, (backTo pos (starEach [] env)).any (·.1) = false := by intro _; rfl) :
    We X K (.Call (.Name "max" p) [e] [] pos) ρ m Q := we_callB F (wr_cons (h.mono fun x m1 ⟨ks, hx, h0, q⟩ => wr_nil (c_maxI F hx h0 q)) he) hm bo_max hg (by decide) (by decide) he hpl
end
end Wn
set_option Elab.async false
set_option linter.all false
set_option maxRecDepth 100000
set_option maxHeartbeats 2000000
set_option autoImplicit false
namespace Wn
open PySem L2
/-! ### enumerate(text, start=k) -/
section
variable {M : Model} {A : Around} {E : Value → Shared → Prop} {s : Shared} {env : Env}
theorem callWith_typeKw {pos : Pos} {T : String} {e : Expr} {rest : List Expr} {kws : List Keyword} {Q : Value → Shared → Prop}
    (h : wpAny M A (spliced (backTo pos (starEach (e :: rest) env))) (fun vs s₁ => wpAny M A (evalAll ((backToKw pos (keywordEach kws env)).map (·.2)))
      (fun kvs s₂ => wpAny M A (call (.type T) vs (((backToKw pos (keywordEach kws env)).filterMap (·.1)).zip kvs)) Q E s₂) E s₁) E s)
    (he : backTo pos (starEach (e :: rest) env) = (false, eval e env) :: backTo pos (starEach rest env))
    (hplain : (backTo pos (starEach (e :: rest) env)).any (·.1) = false)
    (hall : (backToKw pos (keywordEach kws env)).all (·.1.isSome) = true)
    (hkw : (backToKw pos (keywordEach kws env)).any (·.1.isNone) = false) :
    wpAny M A (callWith pos (.type T) [] (backTo pos (starEach (e :: rest) env)) (backToKw pos (keywordEach kws env))) Q E s := by
  have h2 : wpAny M A (evalArgs (.type T) true (backTo pos (starEach (e :: rest) env)) (backToKw pos (keywordEach kws env))) (fun a s₁ => wpAny M A (call (.type T) ([] ++ a.pos) a.kw) Q E s₁) E s := by
    rw [he] at h ⊢
    exact PyProof.Rows.evalArgs_kwB hall h
  unfold callWith
  refine wpAny_bind (wpAny_holding (wpAny_mono h2 (fun a s₁ h₁ => wpAny_bind (wpAny_standAt ?_)) fun _ _ x => x))
  simp only [hplain, hkw, Bool.or_false]
  refine wpAny_bind (wpAny_pure ?_)
  exact wpAny_bind (wpAny_mono h₁ (fun r s₂ hr => wpAny_bind (wpAny_holding (wpAny_point (wpAny_pure hr)))) fun _ _ x => x)
end
def ItS (x : Str) (k : Int) : It :=
  ⟨fun i _ => i < x.cps.size, fun i H v H' => ∃ T c, v = .ref T ∧ H T = none ∧ H' = upd H T (.tup [.int (k + (i : Nat)), .str ⟨#[c]⟩]) ∧ x.cps[i]? = some c, fun i _ => i = x.cps.size⟩
theorem turn_enumS {P : Program} {w : World} {K : PySem.W.Frag} {elts : List Expr} {kk : Nat} {tpos : Pos} (x : Str) (t : Tok) (k : Int) (e it : Addr) (hne : e ≠ it) :
    Turn P w K (.Tuple elts kk tpos) (ItS x k) [e, it] e (fun i h => (∃ old, IsEnum h e it (k + (i : Nat)) old) ∧ h.IsStrIter it (strIterType x) x t i) where
  mem := by simp
  obj := fun i h st b hb => by
    obtain ⟨⟨old, he⟩, o, h1, _, h3⟩ := st
    have e' : b = e ∨ b = it := by simpa using hb
    rcases e' with z | z
    · rw [z]; exact ⟨_, he, fun v q => nomatch q⟩
    · rw [z]; exact ⟨o, h1, fun v q => by rw [h3] at q; cases q⟩
  keep := fun i h h' st k => let ⟨⟨old, he⟩, o, h1, h2, h3⟩ := st; ⟨⟨old, k e (by simp) _ he⟩, o, k it (by simp) o h1, h2, h3⟩
  item := by
    intro X hP hw hK hc i pins s σ H E I hf st hg
    subst hP hw hK
    obtain ⟨⟨old, he⟩, hit⟩ := st
    have hg : i < x.cps.size := hg
    have hh : X.A.in1.handled = none := I.ok.hd hc
    have hel : e < s.heap.objs.size := Heap.lt_size he
    have hil : it < s.heap.objs.size := by obtain ⟨_, q, _⟩ := hit; exact Heap.lt_size q
    refine wpAny_pyNext_enum_itemC (Draws.text hh it x t) he hit hg hne (by simp [hne]) fun w1 h' tk e1 ho hs' hT hsz hk => ?_
    obtain ⟨c, u, hcc, rfl⟩ := e1
    refine ⟨_, rfl, wpAny_letOwnedTupleGo_enum (s := { s with heap := h', toks := tk + 1 }) ho fun h'' he' sb => ?_⟩
    have hT2 := (sb.2 _ (Nat.ne_of_gt hel)).trans hT
    have new : ObjOk X.prog X.w (upd H s.heap.objs.size (.tup [.int (k + (i : Nat)), .str ⟨#[c]⟩])) h'' s.heap.objs.size (.tup [.int (k + (i : Nat)), .str ⟨#[c]⟩]) :=
      ⟨by show 2 ≤ sizeLine; decide, [.int (k + (i : Nat)) tk, .str ⟨#[c]⟩ u], .cons ⟨_, rfl⟩ (.cons ⟨_, rfl⟩ .nil), ⟨_, hT2, rfl, _, rfl⟩⟩
    have I1 : Inv X pins σ (upd H s.heap.objs.size (.tup [.int (k + (i : Nat)), .str ⟨#[c]⟩])) { s with heap := h'', toks := tk + 1 } :=
      I.turnedNew (ch := [e, it]) (fun b ob hb q => (sb.2 b (fun z => hb (by simp [z]))).trans (hk b ob (fun z => hb (by simp [z])) (fun z => hb (by simp [z])) q)) hf (Nat.le_refl _) new
    obtain ⟨o2, k1, k2, k3⟩ := hs'
    refine ⟨.ref s.heap.objs.size, _, I1, rfl, ⟨_, c, rfl, I.hok.fresh (Nat.le_refl _), rfl, hcc⟩, ⟨⟨.str ⟨#[c]⟩ u, ?_⟩, o2, (sb.2 it (Ne.symm hne)).trans k1, k2, k3⟩, fun b hb => ?_⟩
    · have e1 : k + ((i + 1 : Nat) : Int) = k + (i : Int) + 1 := by omega
      rw [e1]; exact he'
    · have hb' : b < s.heap.objs.size := by
        have e' : b = e ∨ b = it := by simpa using hb
        rcases e' with z | z
        · rw [z]; exact hel
        · rw [z]; exact hil
      rw [upd_ne (Nat.ne_of_lt hb')]
      exact (hf b hb).1
  done := by
    intro X hP hw hK hc i pins s σ H E I hf st hg
    subst hP hw hK
    obtain ⟨⟨old, he⟩, hit⟩ := st
    have hg : i = x.cps.size := hg
    have hh : X.A.in1.handled = none := I.ok.hd hc
    subst hg
    exact wpAny_pyNext_enum_endD (Draws.text hh it x t) he hit fun h' eb => ⟨rfl, I.turnedL (t' := s.toks) (ch := [e, it]) (fun b o hb q => eb b o (fun z => hb (by simp [z])) q) hf⟩
  self := fun A i s Q E st h => let ⟨⟨_, he⟩, _⟩ := st; wpAny_pyIter_enum he h
def iEnumS (ta tk : TA) : TI := fun σ H R => ta σ H fun vs H1 => tk σ H1 fun zs H2 => ∃ (x : Str) (k : Int), vs = [.str x] ∧ zs = [.int k] ∧ -(2 ^ 63) ≤ k ∧ k < 2 ^ 63 ∧ R (ItS x k) H2
theorem pi_enumS {X : Cx} {e f : Expr} {ta tk : TA} {p pos tpos kp : Pos} {elts : List Expr} {kk : Nat} (hg : Gl X "enumerate") (hm : X.mg "enumerate" = none) (ha : PA X [e] ta) (hk : PK X [⟨some "start", f, kp⟩] tk)
    (he : backTo pos (starEach [e] X.env) = (false, eval e X.env) :: backTo pos (starEach [] X.env)) (hpl : (backTo pos (starEach [e] X.env)).any (·.1) = false) :
    PI X (.Tuple elts kk tpos) (.Call (.Name "enumerate" p) [e] [⟨some "start", f, kp⟩] pos) (iEnumS ta tk) := by
  refine ⟨fun pins s σ H R I h => ?_⟩
  refine wpAny_Call_Name_kw (ld_blt I hg hm PyProof.Rows.boot_enumerate ?_)
  refine callWith_typeKw (thn (ha.run pos pins s σ H _ I h) fun us s1 ⟨vs, H1, I1, r1, q1⟩ => thn (hk.run pos pins s1 σ H1 _ I1 q1) fun ws s2 ⟨zs, H2, I2, r2, q2⟩ => ?_) he hpl rfl rfl
  obtain ⟨x, k, rfl, rfl, k0, k1, q⟩ := q2
  cases r1 with
  | cons r rr =>
    cases rr
    cases r2 with
    | cons r' rr' =>
      cases rr'
      obtain ⟨t, rfl⟩ := r
      obtain ⟨t2, rfl⟩ := r'
      show wpAny _ _ (call (.type "enumerate") [.str x t] [(Str.ofString "start", .int k t2)]) _ _ _
      refine enum_begins_start (begins_text x t) trivial k0 k1 fun h' he h1 hsz hkp => wpAny_pyIter_enum he ?_
      have I3 : Inv X pins σ H2 { s2 with heap := h' } := I2.kept (t' := s2.toks) hkp
      have he0 : IsEnum h' (s2.heap.objs.size + 1) s2.heap.objs.size (k + ((0 : Nat) : Int)) .none := by rw [show k + ((0 : Nat) : Int) = k by omega]; exact he
      refine ⟨s2.heap.objs.size + 1, [s2.heap.objs.size + 1, s2.heap.objs.size], _, _, H2, rfl, I3, turn_enumS x t k (s2.heap.objs.size + 1) s2.heap.objs.size (Nat.succ_ne_self _), ⟨⟨.none, he0⟩, ⟨_, h1, rfl, rfl⟩⟩, fun b hb => ?_, q⟩
      have e' : b = s2.heap.objs.size + 1 ∨ b = s2.heap.objs.size := by simpa using hb
      have hle : s2.heap.objs.size ≤ b := by
        rcases e' with z | z
        · rw [z]; exact Nat.le_add_right _ _
        · rw [z]; exact Nat.le_refl _
      exact I2.fpOk hle (I2.hok.fresh hle)
/-! ### texts as lists of signs -/
def mkS (l : List Nat) : Str := ⟨l.toArray⟩
def sD (l : List Nat) : PyData := .str (mkS l)
theorem mkS_tl (l : List Nat) : (mkS l).cps.toList = l := by simp [mkS]
theorem mkS_len (l : List Nat) : (mkS l).length = l.length := by simp [mkS, Str.length]
theorem mkS_of (x : Str) : mkS x.cps.toList = x := by simp [mkS]
theorem mkS_inj {a b : List Nat} : mkS a = mkS b ↔ a = b := ⟨fun h => by rw [← mkS_tl a, h, mkS_tl], fun h => by rw [h]⟩
def enumS (l : List Nat) (k : Int) : List MV := (List.range l.length).map fun i => .d (.tuple [.int (k + (i : Nat)), sD [l.getD i 0]])
theorem enumS_len (l : List Nat) (k : Int) : (enumS l k).length = l.length := by simp [enumS]
theorem enumS_get {l : List Nat} {k : Int} {i c : Nat} (h : l[i]? = some c) : (enumS l k)[i]? = some (.d (.tuple [.int (k + (i : Nat)), sD [c]])) := by
  obtain ⟨hi, e⟩ := List.getElem?_eq_some_iff.mp h
  simp [enumS, hi, List.getD, e]
theorem enumS_some {l : List Nat} {k : Int} {i : Nat} {x : MV} (h : (enumS l k)[i]? = some x) : ∃ c, l[i]? = some c ∧ x = .d (.tuple [.int (k + (i : Nat)), sD [c]]) := by
  have hi : i < l.length := by have := (List.getElem?_eq_some_iff.mp h).1; rwa [enumS_len] at this
  have hc : l[i]? = some l[i] := List.getElem?_eq_getElem hi
  rw [enumS_get hc] at h
  exact ⟨_, hc, (Option.some.inj h).symm⟩
section
variable {ι : Type} {X : ι → Cx} {P : Program} {w : World} {K : PySem.W.Frag} {mg : Str → Option Value} {base : Heap} {N : List Str} {sc : Scope} {fv : Str → Bool} {k : Nat} {ρ : Ro} {m : Mm} {Q : QV} {a b e f : Expr} {pos p : Pos} {x y : MV}
theorem wi_enumS (F : Fam X P w K mg base N sc fv k) {elts : List Expr} {kk : Nat} {tpos kp : Pos} {Q : List MV → (Mm → Prop) → Mm → Prop} (hm : mg "enumerate" = none)
    (h : We X K a ρ m fun x m1 => We X K b ρ m1 fun y m2 => ∃ (l : List Nat) (n : Int), x = .d (sD l) ∧ y = .d (.int n) ∧ -1000000 ≤ n ∧ n ≤ 1000000 ∧ Q (enumS l n) (fun _ => True) m2) (hg : sc.names.lookup ("enumerate" : Str) = some .globalImplicit := by rfl)
    (hs : ∀ env : Env, starEach [a] env = (false, eval a env) :: starEach [] env := by intro _; rfl) (he : ∀ env : Env, backTo pos (starEach [a] env) = (false, eval a env) :: backTo pos (starEach [] env) := by intro _; rfl) (hpl : ∀ env : Env, (backTo pos (starEach [a] env)).any (·.1) = false := by intro _; rfl) :
    Wi X K (.Tuple elts kk tpos) (.Call (.Name "enumerate" p) [a] [⟨some "start", b, kp⟩] pos) ρ m Q := fun π G σ H R hk sk wr => by
  refine ⟨iEnumS (tCons (TeOf X a) tNil) (tCons (TeOf X b) tNil), fun j => pi_enumS (F.gl hg j) (by rw [F.cM]; exact hm) (pa_cons (teOf X a j) pa_nil (hs _)) (pk_cons (teOf X b j) pk_nil) (he _) (hpl _), h π G σ H _ hk sk fun v x π1 G1 H1 m1 e1 hk1 rv q1 => q1 π1 G1 σ H1 _ hk1 (sk.xt e1) fun u y π2 G2 H2 m2 e2 hk2 ru ⟨l, n, ex, ey, n0, n1, q⟩ => ?_⟩
  subst ex ey
  refine ⟨mkS l, n, by rw [Da.strI (rv.xt e2)], by rw [Da.intI ru], by omega, by omega, wr _ _ _ π2 G2 H2 m2 (e1.trans e2) hk2 (fun π3 G3 H3 m3 e3 hk3 _ => ?_) q⟩
  have sz : (mkS l).cps.size = l.length := by simp [mkS]
  rw [enumS_len]
  refine ⟨fun i hi => by show i < (mkS l).cps.size; rw [sz]; exact hi, by show l.length = (mkS l).cps.size; rw [sz], fun i v H4 hi yl => ?_⟩
  obtain ⟨T, c, ev, hT, eH, hc⟩ := yl
  subst ev eH
  have hc' : l[i]? = some c := by simpa [mkS] using hc
  have gT := hk3.sub.free hT
  exact ⟨_, upd G3 T (.tup [.int (n + (i : Nat)), .str ⟨#[c]⟩]), enumS_get hc', Xt.new hT gT, hk3.new hT, Da.tup (SqT.of upd_same) (.cons (Da.int _) (.cons (Da.str _) .nil))⟩
theorem c_lenT {l : List Nat} (hl : l.length ≤ 100000) (q : Q (.d (.int (l.length : Nat))) m) : CaW X K (.builtin "len") [.d (sD l)] m Q := fun π G H R vs hk rs wv => by
  obtain ⟨v, rfl, rv⟩ := rvs1 rs
  refine ⟨_, fun j => call_len_str, mkS l, by rw [Da.strI rv], by rw [mkS_len]; exact Nat.le_trans hl (by decide), ?_⟩
  rw [mkS_len]
  exact wv _ (.d (.int _)) π G H m Xt.refl hk (Da.int _) q
theorem b_lenT (F : Fam X P w K mg base N sc fv k) (B : Bt mg) (h : We X K e ρ m fun x m1 => ∃ l : List Nat, x = .d (sD l) ∧ l.length ≤ 100000 ∧ Q (.d (.int (l.length : Nat))) m1) (hg : sc.names.lookup ("len" : Str) = some .globalImplicit := by rfl) (he : ∀ env : Env, starEach [e] env = (false, eval e env) :: starEach [] env := by intro _; rfl) (hpl : ∀ env : Env, (backTo pos (starEach [] env)).any (·.1) = false := by intro _; rfl) :
    We X K (.Call (.Name "len" p) [e] [] pos) ρ m Q := we_callB F (wr_cons (h.mono fun x m1 ⟨l, ex, hl, q⟩ => by subst ex; exact wr_nil (c_lenT hl q)) he) B.len bo_len hg (by decide) (by decide) he hpl
theorem ix_T (F : Fam X P w K mg base N sc fv k) {l : List Nat} {i : Int} {c : Nat} (hl : l.length ≤ 100000) (hi : atI l i = some c) (q : Q (.d (sD [c])) m) : IxW X K (.d (sD l)) (.d (.int i)) m Q := fun π G H R u v hk ru rv wv =>
  ⟨rIx K, fun j => F.cK j ▸ ix_seq, .inr (.inr ⟨mkS l, i, c, Da.strI ru, Da.intI rv, by rw [mkS_len]; exact Nat.le_trans hl (by decide), by rw [mkS_tl]; exact hi, wv _ (.d (sD [c])) π G H m Xt.refl hk (Da.str _) q⟩)⟩
theorem cutS_mk (l : List Nat) (lo hi : Option Int) : cutS (mkS l) lo hi = mkS (cutM l lo hi) := by
  unfold cutS cutM
  rw [mkS_tl, mkS_len]
  rfl
theorem we_sliceT (F : Fam X P w K mg base N sc fv k) {lo hi : Option Expr} {p2 : Pos} (h : We X K e ρ m fun x m1 => Wo X K lo ρ m1 fun l m2 => Wo X K hi ρ m2 fun u m3 => ∃ t : List Nat, x = .d (sD t) ∧ t.length ≤ 100000 ∧ Q (.d (sD (cutM t l u))) m3) : We X K (.Subscript e (.Slice lo hi none p2) pos) ρ m Q := fun π G σ H R hk sk wv => by
  refine ⟨tSl rSlS (TeOf X e) (ToOf X lo) (ToOf X hi), fun j => pe_slice sl_str (teOf X e j) (toOf X lo j) (toOf X hi j), ?_⟩
  refine h π G σ H _ hk sk fun v x π1 G1 H1 m1 e1 hk1 rv q1 => wo_reads q1 hk1 (sk.xt e1) fun l π2 G2 H2 m2 e2 hk2 q2 => wo_reads q2 hk2 (sk.xt (e1.trans e2)) fun u π3 G3 H3 m3 e3 hk3 ⟨t, ex, hl, q⟩ => ?_
  subst ex
  refine ⟨mkS t, Da.strI rv, by rw [mkS_len]; exact Nat.le_trans hl (by decide), ?_⟩
  rw [cutS_mk]
  exact wv _ (.d (sD (cutM t l u))) π3 G3 H3 m3 ((e1.trans e2).trans e3) hk3 (Da.str _) q
theorem o_addT {s t : List Nat} (hl : s.length + t.length ≤ 100000) (q : Q (.d (sD (s ++ t))) m) : OpW X K (binaryOp .Add) (.d (sD s)) (.d (sD t)) m Q := fun π G H R u v hk ru rv wv => by
  refine ⟨_, fun _ => op_add_str, mkS s, mkS t, Da.strI ru, Da.strI rv, by rw [mkS_len, mkS_len]; exact Nat.le_trans hl (by decide), ?_⟩
  have e : mkS s ++ mkS t = mkS (s ++ t) := by
    show Str.mk _ = Str.mk _
    simp [mkS]
  rw [e]
  exact wv _ (.d (sD (s ++ t))) π G H m Xt.refl hk (Da.str _) q
theorem joinL_nil : ∀ ls : List (List Nat), TL.joinL [] ls = ls.flatten
  | [] => rfl
  | [p] => by simp [TL.joinL]
  | p :: q :: r => by
    show p ++ ([] ++ TL.joinL [] (q :: r)) = _
    rw [joinL_nil (q :: r)]; simp
theorem strs_real {π : List Addr} {G : Hp} : ∀ {vs : List V} {ls : List (List Nat)}, Rvs K G π vs (ls.map fun l => .d (sD l)) → vs = (ls.map mkS).map V.str
  | _, [], h => by cases h; rfl
  | _, l :: ls, h => by
    cases h with
    | cons r t => rw [strs_real t, Da.strI r]; rfl
theorem we_join (F : Fam X P w K mg base N sc fv k) {o : Expr} {apos : Pos} (h : We X K o ρ m fun y m1 => y = .d (sD []) ∧ We X K e ρ m1 fun x m2 => ∃ ls : List (List Nat), lstOf m2 x = some (ls.map fun l => .d (sD l)) ∧ (ls.map (·.length)).sum ≤ 100000 ∧ Q (.d (sD ls.flatten)) m2)
    (hs : ∀ env : Env, starEach [e] env = [(false, eval e env)] := by intro _; rfl) (hbase : ∀ env : Env, attributeBase o "join" env (eval o env) = eval o env := by intro _; rfl) (hline : (apos.endLine == pos.line) = true := by rfl) :
    We X K (.Call (.Attribute o "join" apos) [e] [] pos) ρ m Q := fun π G σ H R hk sk wv => by
  refine ⟨tM1 (fun x xs H Q => ∃ a p, ∃ ys : List Str, x = .str a ∧ xs = [.ref p] ∧ (SqL K H p (ys.map V.str) ∨ SqT K H p (ys.map V.str)) ∧ (ys.map (·.length)).sum + ys.length * a.length ≤ 16777216 ∧ Q (.str (Txt.join a ys)) H) (TeOf X o) (TeOf X e), fun j => F.cK j ▸ pe_join (teOf X o j) (teOf X e j) (hs _) (hbase _) hline, h π G σ H _ hk sk fun v y π1 G1 H1 m1 e1 hk1 rv ⟨ey, q1⟩ => ?_⟩
  subst ey
  have ev := Da.strI rv
  refine ⟨⟨_, ev⟩, q1 π1 G1 σ H1 _ hk1 (sk.xt e1) fun u x π2 G2 H2 m2 e2 hk2 ru ⟨ls, hx, hl, q⟩ => ?_⟩
  obtain ⟨a, us, rfl, hs2, rs⟩ := lst_real hk2 ru hx
  rw [strs_real rs] at hs2
  have sl : ((ls.map mkS).map (·.length)).sum = (ls.map (·.length)).sum := by
    rw [List.map_map]
    have : ls.map ((fun x : Str => x.length) ∘ mkS) = ls.map (·.length) := by
      apply List.map_congr_left
      intro l _
      exact mkS_len l
    rw [this]
  refine ⟨mkS [], a, ls.map mkS, ev, rfl, .inl (SqL.of hs2), by rw [sl, mkS_len]; simp; omega, ?_⟩
  have ej : Txt.join (mkS []) (ls.map mkS) = mkS ls.flatten := by
    rw [TL.join_eq]
    have := TL.tl_join (mkS []) (ls.map mkS)
    rw [show TL.tl (mkS []) = [] from rfl, joinL_nil, List.map_map] at this
    have e2 : ls.map (TL.tl ∘ mkS) = ls := by
      conv => rhs; rw [← List.map_id ls]
      apply List.map_congr_left
      intro l _
      exact mkS_tl l
    rw [e2] at this
    rw [← this]
    exact (mkS_of _).symm
  rw [ej]
  exact wv _ (.d (sD ls.flatten)) π2 G2 H2 m2 (e1.trans e2) hk2 (Da.str _) q
theorem we_dsetd (F : Fam X P w K mg base N sc fv k) {o : Expr} {apos : Pos} (h : We X K o ρ m fun x m1 => ∃ i gs, x = .r i ∧ m1[i]? = some (.dct gs) ∧ We X K e ρ m1 fun y m2 => We X K f ρ m2 fun z m3 => ∃ gs' kk, m3[i]? = some (.dct gs') ∧ y = keyM kk ∧ gs'.length < 100000 ∧
      (match valM gs' kk with | none => Q z (m3.set i (.dct (putMK gs' kk z))) | some v => Q v m3))
    (hM : ∀ j, M2 (X j) o "setdefault" apos e f pos := by intro _; exact ⟨rfl, rfl, rfl, rfl⟩) : We X K (.Call (.Attribute o "setdefault" apos) [e, f] [] pos) ρ m Q := fun π G σ H R hk sk wv => by
  refine ⟨_, fun j => pe_dsetd (teOf X o j) (teOf X e j) (teOf X f j) (hM j), h π G σ H _ hk sk fun u x π1 G1 H1 m1 e1 hk1 ru ⟨i, gs, ex, hi, q1⟩ => ?_⟩
  subst ex
  obtain ⟨a, fs, rfl, ha, hf, rs⟩ := dct_real hk1 ru hi
  refine ⟨a, rfl, .inl ⟨fs, .inl hf⟩, q1 π1 G1 σ H1 _ hk1 (sk.xt e1) fun v y π2 G2 H2 m2 e2 hk2 rv q2 => q2 π2 G2 σ H2 _ hk2 (sk.xt (e1.trans e2)) fun v3 z π3 G3 H3 m3 e3 hk3 rz ⟨gs', kk, hi', ey, hl, q3⟩ => ?_⟩
  subst ey
  obtain ⟨a', fs', ea, ha', hf', rs'⟩ := dct_real hk3 (ru.xt (e2.trans e3)) hi'
  cases ea
  obtain rfl := key_real rv
  obtain ⟨h1, h2⟩ := rkv_val (k := kk) rs'
  have e13 := (e1.trans e2).trans e3
  refine ⟨fs', kk, hf', rfl, by rw [Paired.length rs']; exact Nat.lt_of_lt_of_le hl (by decide), ?_⟩
  cases hv : valM gs' kk with
  | none =>
    rw [hv] at q3
    have hn := h1 hv
    exact ⟨fun v hv' => (by rw [hn] at hv'; cases hv'), fun _ => wv _ z π3 G3 _ _ (e13.trans (Xt.write (List.mem_of_getElem? ha'))) (hk3.write ha' (show Rob K G3 π3 (.dK (putK fs' kk v3)) (.dct (putMK gs' kk z)) from ⟨_, rfl, rkv_put rz rs'⟩)) rz q3⟩
  | some y =>
    rw [hv] at q3
    obtain ⟨v', hv', rv'⟩ := h2 y hv
    refine ⟨fun v hv2 => ?_, fun hn => by rw [hv'] at hn; cases hn⟩
    rw [hv'] at hv2; cases hv2
    exact wv _ y π3 G3 H3 m3 e13 hk3 rv' q3
theorem c_any (F : Fam X P w K mg base N sc fv k) {bs : List Bool} (hx : lstOf m x = some (bs.map fun b => .d (.bool b))) (q : Q (.d (.bool (bs.any id))) m) : CaW X K (.builtin "any") [x] m Q := fun π G H R vs hk rs wv => by
  obtain ⟨v, rfl, rv⟩ := rvs1 rs
  obtain ⟨a, us, e, hs, ru⟩ := lst_real hk rv hx
  have eu : us = bs.map V.bl := by
    clear hs hx q
    induction bs generalizing us with
    | nil => cases ru; rfl
    | cons b bs ih => cases ru with | cons r t => rw [Da.blI r, ih _ t]; rfl
  subst eu
  exact ⟨rAny K, fun j => F.cK j ▸ cr_any (F.calm j), a, bs, by rw [e], SqL.of hs, wv _ (.d (.bool _)) π G H m Xt.refl hk (Da.bl _) q⟩
theorem bo_any : bootBuiltins "any" = some (.builtin "any") := by decide +kernel
theorem b_any (F : Fam X P w K mg base N sc fv k) (hm : mg "any" = none) (h : We X K e ρ m fun x m1 => ∃ bs : List Bool, lstOf m1 x = some (bs.map fun b => .d (.bool b)) ∧ Q (.d (.bool (bs.any id))) m1) (hg : sc.names.lookup ("any" : Str) = some .globalImplicit := by rfl) (he : ∀ env : Env, starEach [e] env = (false, eval e env) :: starEach [] env := by intro _; rfl) (hpl : ∀ env : Env, (backTo pos (starEach [] env)).any (·.1) = false := by intro _; rfl) :
    We X K (.Call (.Name "any" p) [e] [] pos) ρ m Q := we_callB F (wr_cons (h.mono fun x m1 ⟨bs, hx, q⟩ => wr_nil (c_any F hx q)) he) hm bo_any hg (by decide) (by decide) he hpl
end
end Wn
set_option Elab.async false
set_option linter.all false
set_option maxRecDepth 100000
set_option maxHeartbeats 2000000
set_option autoImplicit false
namespace Wn
open PySem L2
section
variable {ι : Type} {X : ι → Cx} {P : Program} {w : World} {K : PySem.W.Frag} {mg : Str → Option Value} {base : Heap} {N : List Str} {sc : Scope} {fv : Str → Bool} {k : Nat} {ρ : Ro} {m : Mm} {Q : QV} {a b e f : Expr} {pos p : Pos} {x y : MV}
theorem b_lenU (F : Fam X P w K mg base N sc fv k) (B : Bt mg) (h : We X K e ρ m fun x m1 => (∃ xs, seqOf m1 x = some xs ∧ Q (.d (.int (xs.length : Nat))) m1) ∨ ∃ l : List Nat, x = .d (sD l) ∧ l.length ≤ 100000 ∧ Q (.d (.int (l.length : Nat))) m1) (hg : sc.names.lookup ("len" : Str) = some .globalImplicit := by rfl) (he : ∀ env : Env, starEach [e] env = (false, eval e env) :: starEach [] env := by intro _; rfl) (hpl : ∀ env : Env, (backTo pos (starEach [] env)).any (·.1) = false := by intro _; rfl) :
    We X K (.Call (.Name "len" p) [e] [] pos) ρ m Q := we_callB F (wr_cons (h.mono fun x m1 h => wr_nil (by
      rcases h with ⟨xs, hx, q⟩ | ⟨l, ex, hl, q⟩
      · exact c_len F hx q
      · subst ex; exact c_lenT hl q)) he) B.len bo_len hg (by decide) (by decide) he hpl
theorem o_notB {c d : Bool} (q : Q (.d (.bool (!decide (c = d)))) m) : OpW X K (compareOp .IsNot) (.d (.bool c)) (.d (.bool d)) m Q := fun π G H R u v hk ru rv wv =>
  ⟨_, fun _ => op_isnot_bl, c, d, Da.blI ru, Da.blI rv, wv _ (.d (.bool _)) π G H m Xt.refl hk (Da.bl _) q⟩
end
/-! ### slices and pieces -/
theorem sIx_nat {n d a : Nat} : HT.sIx n d (some (a : Int)) = min a n := by
  unfold HT.sIx
  first | (simp; omega) | (split <;> omega) | omega
theorem cutM_nat {α : Type} (t : List α) (a s : Nat) : cutM t (some (a : Int)) (some ((a + s : Nat) : Int)) = (t.drop a).take s := by
  unfold cutM
  rw [sIx_nat, sIx_nat]
  by_cases h : a ≤ t.length
  · rw [Nat.min_eq_left h]
    by_cases h2 : a + s ≤ t.length
    · rw [Nat.min_eq_left h2, Nat.add_sub_cancel_left]
    · rw [Nat.min_eq_right (by omega)]
      rw [List.take_of_length_le (by simp), List.take_of_length_le (by simp; omega)]
  · rw [Nat.min_eq_right (by omega), List.drop_of_length_le (by omega), List.drop_of_length_le (by omega)]
    simp
def cnt (n s : Nat) : Nat := (n + s - 1) / s
theorem cnt_lt {n s i : Nat} (hs : 1 ≤ s) : i < cnt n s ↔ i * s < n := by
  unfold cnt
  rw [Nat.lt_iff_add_one_le, Nat.le_div_iff_mul_le (by omega), Nat.add_mul]
  omega
theorem cnt_rg {n s : Nat} (hs : 1 ≤ s) (hs2 : s ≤ 1000) (hn : n ≤ 1000) : RgC 0 (n : Int) (s : Int) (cnt n s) := by
  have e1 : Builtin.Range.rangeSize 0 (n : Int) (s : Int) = ((cnt n s : Nat) : Int) := by
    rw [PyProof.Rows.rangeSize_pos (by omega) (by omega)]
    unfold cnt
    have : ((n + s - 1 : Nat) : Int) = (n : Int) + (s : Int) - 1 := by omega
    rw [← this]
    exact Int.natCast_ediv _ _ |>.symm
  refine ⟨by omega, by omega, ?_, e1⟩
  have hc : cnt n s ≤ 2000 := by unfold cnt; exact Nat.le_trans (Nat.div_le_self _ _) (by omega)
  unfold Builtin.Range.small
  rw [e1]
  simp only [Builtin.Range.rangeFitsLong, Bool.and_eq_true, Bool.or_eq_true, decide_eq_true_eq, beq_iff_eq]
  (repeat' split) <;> first | omega | (refine ⟨by omega, .inr ?_⟩; rw [Bool.and_eq_true, decide_eq_true_eq, decide_eq_true_eq]; omega)
def piece (t : List Nat) (s i : Nat) : PyData := .tuple [.int ((i * s : Nat) : Int), sD ((t.drop (i * s)).take s)]
def cutL (t : List Nat) (s j : Nat) : List PyData := (List.range j).map (piece t s)
theorem cutL_succ (t : List Nat) (s j : Nat) : cutL t s (j + 1) = cutL t s j ++ [piece t s j] := by unfold cutL; rw [List.range_succ, List.map_append]; rfl
theorem cutL_some {t : List Nat} {s j i : Nat} {d : PyData} (h : (cutL t s j)[i]? = some d) : i < j ∧ d = piece t s i := by
  unfold cutL at h
  obtain ⟨i', hi, rfl⟩ := map_get h
  have hij : i < j := by have := (List.getElem?_eq_some_iff.mp hi).1; simpa using this
  rw [List.getElem?_range hij] at hi
  cases hi
  exact ⟨hij, rfl⟩
end Wn
set_option Elab.async false
set_option linter.all false
set_option maxRecDepth 100000
set_option maxHeartbeats 4000000
set_option autoImplicit false
namespace Wn
open PySem L2 PyProof.Rows
/-! ### sorted of a dict with int keys, any number of them -/
def rSrtD : List V → Hp → VK → Prop := fun ws H Q => ∃ (d : Addr) (es : List (Key × V)) (ns : List Int), ws = [V.ref d] ∧ Rd H d (.dK es) ∧ es.map (·.1) = ns.map Sum.inl ∧
  ∀ (os : List Int) (p : Addr), os.Perm ns → os.Pairwise (· ≤ ·) → H p = none → Q (V.ref p) (upd H p (.lst (os.map V.int)))
theorem keys_ints {es : List Value} {ks : List Key} : ∀ {ns : List Int}, ks = ns.map Sum.inl → es.length = ks.length → (∀ (j : Nat) (k : Key) (v : Value), ks[j]? = some k → es[j]? = some v → keyIs k v = true) → IntsAre es ns := by
  intro ns e hl h
  subst e
  refine ints_each (by rw [hl, List.length_map]) fun j v hv => ?_
  have hj : j < ns.length := by have := (List.getElem?_eq_some_iff.mp hv).1; rw [hl, List.length_map] at this; exact this
  have hk : (ns.map (Sum.inl : Int → Key))[j]? = some (.inl ns[j]) := by rw [List.getElem?_map, List.getElem?_eq_getElem hj]; rfl
  rcases keyIs_shape (h j _ v hk hv) with ⟨i, t, e1, e2⟩ | ⟨z, t, e1, e2⟩
  · cases e1
    exact ⟨_, t, List.getElem?_eq_getElem hj, e2⟩
  · cases e1
theorem cr_srtD {X : Cx} (hc : X.calm = true) : CallR X (.builtin "sorted") rSrtD := by
  intro pins s σ H ws us Q I r h
  obtain ⟨d, es, ns, rfl, hd, hk, q⟩ := h
  obtain ⟨u, rfl, ru⟩ := vals1 r
  obtain rfl : u = Value.ref d := ru
  obtain ⟨zz, low, vs, rel, dd⟩ := dk_rd I.hok hd
  obtain ⟨ep, at_⟩ := dd.dictAt
  have kk : vs.map (·.1) = ns.map Sum.inl := by rw [← rel.keys]; exact hk
  have ll : vs.length = ns.length := by simpa using congrArg List.length kk
  have big : vs.length ≤ sizeLine := by rw [← rel.length]; exact zz
  refine Calls.call_function_entry kind_sorted plain_sorted entry_sorted (args_sorted1 _) ?_
  unfold Builtin.«sorted»
  refine wpAny_bind (m := checkCount _ _ _ _) (wpAny_pure (wpAny_bind ?_))
  refine PySem.W.kdu_collect (PySem.W.kdl_dict (knd := mixKind X.prog X.w) (kvs := vs) (ep := ep) low) (I.ok.hd hc) at_ big fun h1 tk acc keep it => ?_
  have la : acc.toList.length = vs.length := by rw [Array.length_toList]; exact it.1
  have ia : IntsAre acc.toList ns := keys_ints kk (by rw [la, List.length_map]) fun j k v hkj hv => by
    obtain ⟨k', x', e1, e2⟩ := it.2 j v (by rw [← Array.getElem?_toList]; exact hv)
    have : (vs.map (·.1))[j]? = some k' := by rw [List.getElem?_map, e1]; rfl
    rw [hkj] at this
    cases this
    exact e2
  have I1 : Inv X pins σ H { s with heap := h1, toks := tk } := I.kept keep
  refine wpAny_bind (wpAny_newList ?_ (by rw [la]; exact big))
  have ob : (h1.push (seqObj "list" acc.toList.toArray 0)).get? h1.objs.size = some (seqObj "list" acc.toList.toArray 0) := Heap.get?_push_size _ rfl
  show wpAny _ _ _ _ _ { s with heap := h1.push (seqObj "list" acc.toList.toArray 0), toks := tk }
  refine wpAny_bind (wpAny_holding (wpAny_call_entry slot_list_sort ⟨_, ob, rfl⟩ entry_list_sort ?_ (args_list_sort _)))
  refine SrtO.list_sort_ord SrtO.swo_int ob (by rw [la]; exact big) (fun two => SrtO.ints_sortable ia two) fun out so st => ⟨_, rfl, ?_⟩
  obtain ⟨k1, k2, k3⟩ := SrtO.ints_out ia so st
  obtain ⟨e2, at2⟩ := sortedHeap_at (vs := acc.toList) (out := out.toArray) ob
  have lo : ((out.map SrtO.iv).map V.int).length ≤ sizeLine := by rw [List.length_map, k2.length_eq, ← ll]; exact big
  refine wpAny_pure ⟨_, rfl, .ref h1.objs.size, upd H h1.objs.size (.lst ((out.map SrtO.iv).map V.int)), ?_, rfl, q _ _ k2 k3 (I1.hok.fresh (Nat.le_refl _))⟩
  refine I1.laid (t' := tk) (fun b o hb => ?_) (Nat.le_refl _) (show ObjOk X.prog X.w _ _ _ (.lst ((out.map SrtO.iv).map V.int)) from ⟨lo, out, e2, vals_of_ints k1, at2⟩)
  have lt : b < h1.objs.size := Heap.lt_size hb
  rw [sortedHeap_old (Nat.ne_of_lt lt) (by rw [size_push']; exact Nat.lt_succ_of_lt lt)]
  exact Heap.get?_push_of_some _ hb
section
variable {ι : Type} {X : ι → Cx} {P : Program} {w : World} {K : PySem.W.Frag} {mg : Str → Option Value} {base : Heap} {N : List Str} {sc : Scope} {fv : Str → Bool} {k : Nat} {ρ : Ro} {m : Mm} {Q : QV} {a b e f : Expr} {pos p : Pos} {x y : MV}
theorem c_srtD (F : Fam X P w K mg base N sc fv k) {i : Nat} {gs : List (Key × MV)} {ks : List Int} (hi : m[i]? = some (.dct gs)) (hks : gs.map (·.1) = ks.map Sum.inl) (q : NewL ((srtI ks).map fun i => .d (.int i)) m Q) : CaW X K (.builtin "sorted") [.r i] m Q := fun π G H R vs hk rs wv => by
  obtain ⟨v, rfl, rv⟩ := rvs1 rs
  obtain ⟨a, fs, rfl, ha, hf, r⟩ := dct_real hk rv hi
  refine ⟨_, fun j => cr_srtD (F.calm j), a, fs, ks, rfl, .inl hf, by rw [rkv_keys r]; exact hks, fun ys pa h1 h2 hp => ?_⟩
  rw [srtI_uniq h1 h2]
  exact newl hk hp (ints_rvs _) q wv
theorem b_srtD (F : Fam X P w K mg base N sc fv k) (B : Bt mg) (h : We X K e ρ m fun x m1 => ∃ i gs ks, x = .r i ∧ m1[i]? = some (.dct gs) ∧ gs.map (·.1) = ks.map Sum.inl ∧ NewL ((srtI ks).map fun i => .d (.int i)) m1 Q) (hg : sc.names.lookup ("sorted" : Str) = some .globalImplicit := by rfl) (he : ∀ env : Env, starEach [e] env = (false, eval e env) :: starEach [] env := by intro _; rfl) (hpl : ∀ env : Env, (backTo pos (starEach [] env)).any (·.1) = false := by intro _; rfl) :
    We X K (.Call (.Name "sorted" p) [e] [] pos) ρ m Q := we_callB F (wr_cons (h.mono fun x m1 ⟨i, gs, ks, ex, hi, hks, q⟩ => by subst ex; exact wr_nil (c_srtD F hi hks q)) he) B.sorted bo_sorted hg (by decide) (by decide) he hpl
end
end Wn
set_option Elab.async false
set_option linter.all false
set_option maxRecDepth 100000
set_option maxHeartbeats 2000000
set_option autoImplicit false
namespace Wn
open PySem L2 PyProof.Rows
/-! ### defs that call repr: no repr may be under way where they are called -/
structure FnG (P : Program) (w : World) (K : PySem.W.Frag) (mg : Str → Option Value) (base : Heap) (k : Nat) (f : Addr) (fd : FuncData) (ps : List Str) (sp : Sp) : Prop where
  len : ∀ vs H Q E, sp vs H Q E → vs.length = ps.length
  run : ∀ (A : Around) (outer : List Env) (s : Shared) (H : Hp) (args : Args) (us : List Value) (vs : List V) (Q : VK) (E : XK), A.guards = some [] → Room k A → Env0 P w K mg base A outer s H → BindsTo s fd args (ps.zip us) → Vals vs us → sp vs H Q E →
    codeAny (model P w) A (.call (.ref f) args) (CR CX0 outer P w H s Q E) s
section
variable {P : Program} {w : World} {K : PySem.W.Frag} {mg : Str → Option Value} {base : Heap}
theorem par_kinds {N ps : List Str} {sc : Scope} (S : FnScope N ps sc) (n : Nat) (us : List Value) : ∀ y ∈ ps.zip us, sc.names.lookup y.1 = some .local ∨ (sc.names.lookup y.1 = some .cell ∧ ((cellsFrom n sc.names []).lookup y.1).isSome = true) := fun y hy => by
  obtain ⟨nm, v⟩ := y
  have hm := (List.of_mem_zip hy).1
  exact (S.par nm hm).imp id fun q => ⟨q, PySem.W.cellsFrom_some _ _ _ (.inl q)⟩
/-- one call, at one place -/
theorem enter_at {nm qual : Str} {st : Stmt} {f : Addr} {fd : FuncData} {N ps : List Str} {k : Nat} {A : Around} {outer : List Env} {s : Shared} {H : Hp} {args : Args} {us : List Value} {vs : List V} {Q : VK} {E : XK} (F : Fun K nm qual st f fd) (S : FnScope N ps (defScope st))
    (hr : Room (k + 1) A) (e0 : Env0 P w K mg base A outer s H) (hb : BindsTo s fd args (ps.zip us)) (rv : Vals vs us) (hl : vs.length = ps.length)
    (body : ∀ cdv : Value, ∃ t, PSs (cxOf CX0 P w K mg base N qual (defScope st) f cdv A outer s H E).nox (defBody st) t ∧ t { nx := fun _ H' => Q .non H', rt := Q } (L2.start N vs) H) : codeAny (model P w) A (.call (.ref f) args) (CR CX0 outer P w H s Q E) s := by
  obtain ⟨oc, od, kV, doc, pm, an, cdv, ct, osl, ef, lk, hcd⟩ := F.ex
  subst ef
  obtain ⟨t, ht, hq⟩ := body cdv
  have stays : ∀ b o, base.get? b = some o → s.heap.get? b = some o := fun b o e => (e0.bs b o e).1
  have inK := e0.mod.kin.keeps stays
  refine codeAny_call_function hr.depth (inK _ _ lk) rfl S.co S.gen rfl (PySem.W.codeRec_of inK hcd) (hb _ _ _ _ (wpAny_newFunctionEnv_cells S.kind (par_kinds S _ us) fun env he s1 ic => ?_))
  subst he
  refine ⟨(e0.mod.nolimit.keeps stays).keeps ic.toInCall.keep, codeAny_func (wpAny_mono (ht.nox.run [] s1 (L2.start N vs) H _ (inv_start S hr.hd e0 hl rv ic) hq) ?_ fun _ _ z => z)⟩
  rintro fl s' hs
  cases fl with
  | brk => exact let ⟨_, _, _, z⟩ := hs; z.elim
  | cont => exact let ⟨_, _, _, z⟩ := hs; z.elim
  | ret u =>
    obtain ⟨v, σ', H', J, ru, z⟩ := hs
    exact ⟨v, H', J.os, J.bare, J.base, J.hok, ru, z⟩
  | next =>
    obtain ⟨σ', H', J, z⟩ := hs
    exact ⟨.non, H', J.os, J.bare, J.base, J.hok, rfl, z⟩
theorem fn_g {nm qual : Str} {st : Stmt} {f : Addr} {fd : FuncData} {N ps : List Str} {k : Nat} {T : List MV → Mm → QV → Prop} (F : Fun K nm qual st f fd) (S : FnScope N ps (defScope st)) (len : ∀ xs m Q, T xs m Q → xs.length = ps.length)
    (body : ∀ (X : Unit → Cx), Fam X P w K mg base N (defScope st) (fun _ => true) k → (∀ j, (X j).A.guards = some []) → ∀ xs m Q, T xs m Q → Scd m → Ws X K (defBody st) (startM N xs) m (EndF m.length Q)) : FnG P w K mg base (k + 1) f fd ps (spM K T) := by
  have len' : ∀ vs H Q E, spM K T vs H Q E → vs.length = ps.length := fun vs H Q E h => by
    obtain ⟨π, G, m, xs, Qm, hk, rvs, hT, _⟩ := h
    rw [Paired.length rvs]
    exact len xs m Qm hT
  refine ⟨len', fun A outer s H args us vs Q E hg hr e0 hb rv h => enter_at F S hr e0 hb rv (len' _ _ _ _ h) fun cdv => ?_⟩
  obtain ⟨π, G, m, xs, Qm, hk, rvs, hT, wv⟩ := h
  have fam : Fam (fun _ : Unit => (cxOf CX0 P w K mg base N qual (defScope st) f cdv A outer s H E).nox) P w K mg base N (defScope st) (fun _ => true) k :=
    ⟨S.nd, fun _ => rfl, fun _ => rfl, fun _ => rfl, fun _ => rfl, fun _ => rfl, fun _ => rfl, fun _ => rfl, fun _ => rfl, fun _ => hr.deeper _, fun _ => PassesOwn.never, fun _ => rfl⟩
  obtain ⟨t, pt, ht⟩ := body _ fam (fun _ => hg) xs m Qm hT hk.scd π G (L2.start N vs) H { nx := fun _ H' => Q .non H', rt := Q } hk (sk_start rvs)
    ⟨fun σ' ρ' π' G' H' m' e hk' _ q => ret_wish hk wv .non (.d .none) π' G' H' m' e hk' Da.non q, ret_wish hk wv, fun _ _ _ _ _ _ _ _ _ q => q.elim, fun _ _ _ _ _ _ _ _ _ q => q.elim, fun _ => takes_nox fun _ _ _ _ w => let ⟨_, _, _, _, _, _, _, _, _, _, _, _, z⟩ := w; z⟩
  exact ⟨t, pt (), ht⟩
end
/-! ### the law itself -/
/-- a heap that knows the script and nothing else -/
theorem script_heap {P : Program} {w : World} {K : PySem.W.Frag} {h : Heap} {a : Addr} {vs : List Value} {ns : List Int} (KX : K.In h) (ha : h.get? a = some { cls := .type "list", data := .seq vs.toArray }) (hi : IntsAre vs ns) (hl : ns.length ≤ sizeLine) :
    ∃ H : Hp, (∀ b u, H b = some u → b = a ∧ K.lookup a = none ∧ ∃ o xs, u = .frz o (.lst xs)) ∧ SqL K H a (ns.map V.int) ∧ HOk P w H h := by
  have rv := vals_ints hi
  cases hk : K.lookup a with
  | some o =>
    have e := KX a o hk
    rw [ha] at e
    cases e
    refine ⟨fun _ => none, fun b u z => (by cases z), .inr ⟨_, vs.toArray, _, hk, rfl, rfl, rfl, ?_, by simpa using rv⟩, fun b u z => by have z' : (none : Option HO) = some u := z; cases z'⟩
    rw [List.size_toArray, hi.length]
    exact hl
  | none =>
    let ob : Obj := { cls := .type "list", data := .seq vs.toArray }
    have at_a : (fun b => if b = a then some (HO.frz ob (.lst (ns.map V.int))) else none) a = some (HO.frz ob (.lst (ns.map V.int))) := if_pos rfl
    have inv : ∀ b u, (fun b => if b = a then some (HO.frz ob (.lst (ns.map V.int))) else none) b = some u → b = a ∧ u = HO.frz ob (.lst (ns.map V.int)) := fun b u z => by
      by_cases hb : b = a
      · subst hb
        exact ⟨rfl, (Option.some.inj (at_a.symm.trans z)).symm⟩
      · have z' : (if b = a then some (HO.frz ob (.lst (ns.map V.int))) else none) = some u := z
        rw [if_neg hb] at z'; cases z'
    refine ⟨fun b => if b = a then some (HO.frz ob (.lst (ns.map V.int))) else none, fun b u z => ?_, .inl (.inr ⟨ob, at_a⟩), fun b u z => ?_⟩
    · obtain ⟨e1, e2⟩ := inv b u z
      exact ⟨e1, rfl, _, _, e2⟩
    · obtain ⟨e1, e2⟩ := inv b u z
      subst e1 e2
      exact ⟨ha, by rw [List.length_map]; exact hl, vs, _, rv, ha⟩
theorem law_at {P : Program} {w : World} {K : PySem.W.Frag} {mg mb : Str → Option Value} {k : Nat} {fa a : Addr} {fd : FuncData} {x : Str} {sp : Sp} {s : Shared} {vs : List Value} {ns : List Int}
    (KX : K.In s.heap) (hns : s.heap.Ns mainGlobals mg) (hb : s.heap.Ns builtinsNs mb) (hbb : ∀ x : Str, x ≠ "__name__" → mb x = bootBuiltins x) (hlim : s.heap.NoLimit) (hg : s.gens = #[])
    (ha : s.heap.get? a = some { cls := .type "list", data := .seq vs.toArray }) (hi : IntsAre vs ns) (hl : ns.length ≤ sizeLine) (hr : Room k callerA)
    (F : ∀ base : Heap, K.In base → base.Ns mainGlobals mg → FnG P w K mg base k fa fd [x] sp) (bind : ∀ (s : Shared) (u : Value), BindsTo s fd ⟨[u], []⟩ [(x, u)])
    (hsp : ∀ H : Hp, SqL K H a (ns.map V.int) → sp [.ref a] H (fun v _ => v = .bl true) fun _ _ _ => False) :
    codeAny (model P w) callerA (.call (.ref fa) ⟨[.ref a], []⟩) (fun r s' => r = .ok (.ret (.bool true)) ∧ OldK s.heap s'.heap ∧ s'.os = s.os ∧ AllBare s'.gens) s := by
  obtain ⟨H, only, sq, ok⟩ := script_heap (P := P) (w := w) KX ha hi hl
  have seen : ∀ {b : Addr} {o : Obj}, s.heap.get? b = some o → (b = a → K.lookup a ≠ none ∨ False) → (hidT s.heap H).get? b = some o := fun {b o} e n => hidT_get e (by
    cases q : H b with
    | none => rfl
    | some u =>
      obtain ⟨e1, e2, _⟩ := only b u q
      rcases n e1 with z | z
      · exact absurd e2 z
      · exact z.elim)
  have spaces : ∀ {b : Addr} {m : Str → Option Value}, s.heap.Ns b m → (hidT s.heap H).Ns b m := fun {b m} ⟨o, es, ep, e, d, r⟩ => ⟨o, es, ep, seen e (fun z => by
    subst z
    rw [ha] at e; cases e
    exact nomatch (show Data.seq vs.toArray _ = Data.dict es ep from d)), d, r⟩
  have kin : K.In (hidT s.heap H) := fun b o e => seen (KX b o e) fun z => .inl (by rw [← z, e]; simp)
  have mod : Mod K mg (hidT s.heap H) := ⟨kin, spaces hns, ⟨mb, spaces hb, hbb⟩, let ⟨mc, h1, h2⟩ := hlim; ⟨mc, spaces h1, h2⟩⟩
  have e0 : Env0 P w K mg (hidT s.heap H) callerA [] s H := ⟨rfl, mod, fun _ _ => of_hidT, Nat.le_of_eq (hidT_size _ _), trivial, fun b z => (by cases (show b ∈ ([] : List Addr) from z)), ok, .of_eq hg⟩
  refine codeAny_mono ((F _ kin (spaces hns)).run callerA [] s H ⟨[.ref a], []⟩ [.ref a] [.ref a] _ _ rfl hr e0 (bind s (.ref a)) (.cons rfl .nil) (hsp H sq)) fun r s' z => ?_
  match r, z with
  | .ok (.ret u), ⟨v, H', os, bare, un, ok', ru, q⟩ =>
    have q' : v = .bl true := q
    subst q'
    cases (show u = Value.bool true from ru)
    refine ⟨rfl, OldK.of_keep fun b o e => ?_, os, bare⟩
    cases hH : H b with
    | none => exact un.keep b o e hH (fun z => nomatch (show b ∈ ([] : List Addr) from z)) (by simp)
    | some u =>
      obtain ⟨_, _, ob, xs, eu⟩ := only b u hH
      subst eu
      obtain ⟨e1, _⟩ := ok b _ hH
      obtain ⟨e2, _⟩ := ok' b _ (un.frzs b ob _ hH)
      rw [e] at e1; cases e1
      exact e2
  | .ok .next, z => exact False.elim z
  | .ok .brk, z => exact False.elim z
  | .ok .cont, z => exact False.elim z
  | .error e, z => exact False.elim z
theorem walk_g {l : PySem.W.OpenLaw} {n k : Nat} {q : Program} {loose : List Str} {XP : (Str → Option Value) → Heap → Prop} {YP : World → Heap → Prop} {d : DefRec} {K : Params → PySem.W.Frag} {sp : World → Sp} {x : Str}
    (hn : l.most = some n) (hn2 : n ≤ sizeLine) (hdf : d.params.defaults = []) (hr : Room k callerA) (hY : ∀ (w : World) (h : Heap), YP w h → (K w.params).In h)
    (F : ∀ (w : World) (mg : Str → Option Value) (fa : Addr) (h : Heap), (K w.params).In h → h.Ns mainGlobals mg → mg d.name = some (.ref fa) → ∃ fd : FuncData, (∀ (s : Shared) (u : Value), BindsTo s fd ⟨[u], []⟩ [(x, u)]) ∧ ∀ base : Heap, (K w.params).In base → base.Ns mainGlobals mg → FnG l.prog w (K w.params) mg base k fa fd [x] (sp w))
    (hsp : ∀ (w : World) (H : Hp) (a : Addr) (ns : List Int), SqL (K w.params) H a (ns.map V.int) → sp w [.ref a] H (fun v _ => v = .bl true) fun _ _ _ => False) : PySem.W.WalkO q loose XP YP l.row.toRowW d [] (fun f vs => PySem.call f vs) :=
  Att.attach_call hn hdf fun w _ _ mg _ fa _ _ _ _ a _ ns G Y _ _ _ hmg hobj hints hlen hg =>
    let ⟨_, hb, hF⟩ := F w mg fa _ (hY w _ Y) G.T.g hmg
    law_at (hY w _ Y) G.T.g G.T.b G.T.builtins G.T.nolimit hg hobj hints (Nat.le_trans hlen hn2) hr hF hb fun H hS => hsp w H a ns hS
/-! ### repr -/
def rRepr (K : PySem.W.Frag) : List V → Hp → VK → Prop := fun xs H Q => ∃ v d, xs = [v] ∧ Da K H v d ∧ d.showable = true ∧ d.hasDict = false ∧ d.depth ≤ 100 ∧ d.shown.length ≤ sizeLine ∧ Q (.str d.shown) H
theorem cr_repr {X : Cx} {k : Nat} (hr : Room k X.A) (hg : X.A.guards = some []) : CallR X (.builtin "repr") (rRepr X.K) := by
  intro pins s σ H xs us Q I r h
  obtain ⟨v, d, rfl, hd, hs, hn, hm, hz, q⟩ := h
  obtain ⟨u, rfl, ru⟩ := vals1 r
  obtain ⟨as, rd⟩ := da_reads I hd u ru
  have big : ∀ a, Reads s.heap (.ref a) d as → wpAny (model X.prog X.w) X.A (call (.builtin "repr") [.ref a]) (EP X pins σ Q) X.xe s := fun a ra =>
    repr_of_reads' ra hs (PyData.noDict_hsm hn) hg (un_of hr (by omega)) (fun _ _ e => e) (fun h' u tk hk => ⟨.str _, H, I.kept (t' := tk) hk, ⟨u, rfl⟩, q⟩) hz
  cases hd with
  | non => cases ru; exact PySem.P.repr_of_none ⟨.str _, H, I.tok _, ⟨_, rfl⟩, q⟩
  | bl b =>
    cases ru
    refine PySem.P.repr_of_bool ⟨.str _, H, I.tok _, ⟨_, rfl⟩, ?_⟩
    cases b <;> exact q
  | int i =>
    obtain ⟨t, rfl⟩ := ru
    exact PySem.P.repr_of_int (by simpa [PyData.showable] using hs) ⟨.str _, H, I.tok _, ⟨_, rfl⟩, q⟩
  | str x =>
    obtain ⟨t, rfl⟩ := ru
    exact PySem.P.repr_of_str ⟨.str _, H, I.tok _, ⟨_, rfl⟩, q⟩ (by simpa only [PyData.shown] using hz)
  | lst h1 h2 => cases ru; exact big _ rd
  | tup h1 h2 => cases ru; exact big _ rd
  | dct h1 h2 => cases ru; exact big _ rd
theorem bo_repr : bootBuiltins "repr" = some (.builtin "repr") := by decide +kernel
section
variable {ι : Type} {X : ι → Cx} {P : Program} {w : World} {K : PySem.W.Frag} {mg : Str → Option Value} {base : Heap} {N : List Str} {sc : Scope} {fv : Str → Bool} {k : Nat} {ρ : Ro} {m : Mm} {Q : QV} {D : Ed} {a b e f : Expr} {pos p : Pos} {x y : MV}
theorem c_repr (F : Fam X P w K mg base N sc fv k) (hg : ∀ j, (X j).A.guards = some []) {d : PyData} (hx : datOf m x = some d) (h1 : d.showable = true) (h2 : d.hasDict = false) (h3 : d.depth ≤ 100) (h4 : d.shown.length ≤ sizeLine) (q : Q (.d (.str d.shown)) m) : CaW X K (.builtin "repr") [x] m Q := fun π G H R vs hk rs wv => by
  obtain ⟨v, rfl, rv⟩ := rvs1 rs
  exact ⟨rRepr K, fun j => F.cK j ▸ cr_repr (F.room j) (hg j), v, d, rfl, dat_real hk rv hx, h1, h2, h3, h4, wv _ (.d (.str _)) π G H m Xt.refl hk (Da.str _) q⟩
theorem b_repr (F : Fam X P w K mg base N sc fv k) (hg : ∀ j, (X j).A.guards = some []) (hm : mg "repr" = none) (h : We X K e ρ m fun x m1 => ∃ d, datOf m1 x = some d ∧ d.showable = true ∧ d.hasDict = false ∧ d.depth ≤ 100 ∧ d.shown.length ≤ sizeLine ∧ Q (.d (.str d.shown)) m1) (hgl : sc.names.lookup ("repr" : Str) = some .globalImplicit := by rfl) (he : ∀ env : Env, starEach [e] env = (false, eval e env) :: starEach [] env := by intro _; rfl) (hpl : ∀ env : Env, (backTo pos (starEach [] env)).any (·.1) = false := by intro _; rfl) :
    We X K (.Call (.Name "repr" p) [e] [] pos) ρ m Q := we_callB F (wr_cons (h.mono fun x m1 ⟨d, hx, h1, h2, h3, h4, q⟩ => wr_nil (c_repr F hg hx h1 h2 h3 h4 q)) he) hm bo_repr hgl (by decide) (by decide) he hpl
/-! ### a, b, .. = (x, y, ..) whatever these are; a, b, .. = a list -/
theorem ws_unpack (F : Fam X P w K mg base N sc fv k) {es ts : List Expr} {n1 n2 : Nat} {p1 p2 : Pos} (h : Wr X K es ρ m fun xs m1 => xs.length ≤ 1000 ∧ xs.length = ts.length ∧ Wgs X K (fun _ => True) ts xs ρ m1 D.nx)
    (hs : ∀ env : Env, swapsWithSole [.Tuple ts n1 p1] (.Tuple es n2 p2) pos.line env = pure false := by intro _; rfl) (hw : ∀ env : Env, swappedStores [.Tuple ts n1 p1] (.Tuple es n2 p2) env = pure none := by intro _; rfl)
    (h1 : ∀ env : Env, (assignEach [.Tuple ts n1 p1] env).map (·.2) = [assign (.Tuple ts n1 p1) env] := by intro _; rfl)
    (hn : ∀ env : Env, (assignEach ts env).length = ts.length := by intro _; rfl) (hst : ∀ env : Env, (assignEach ts env).findIdx? (·.1) = none := by intro _; rfl) : Ws1 X K (.Assign [.Tuple ts n1 p1] (.Tuple es n2 p2) pos) ρ m D := fun π G σ H D' hk sk wd => by
  refine ⟨_, fun j => ps_asg (pe_tup (taOf X es j)) (F.cK j ▸ pg_tup (F.calm j) (tgsOf X ts j) (hn _) (hst _) : PG (X j) _ (gTup K ts.length (TgsOf X ts))) (hs _) (hw _) (h1 _), h π G σ H _ hk sk fun vs xs π1 G1 H1 m1 e1 hk1 rvs ⟨hl, el, q⟩ => ⟨by rw [Paired.length rvs]; exact Nat.le_trans hl (by decide), fun pa hp => ?_⟩⟩
  have hk2 : Hk K π1 G1 (upd H1 pa (.tup vs)) m1 := hk1.grow (same_new hp)
  have e2 : Xt π1 G1 H1 π1 G1 (upd H1 pa (.tup vs)) := Xt.other Xt.refl hp
  refine ⟨pa, vs, rfl, SqT.of upd_same, by rw [Paired.length rvs, el], q π1 G1 σ _ _ vs hk2 (sk.xt e1) rvs fun σ2 ρ2 π2 G2 H2 m2 e3 hk3 sk3 _ _ q2 => wd.nx σ2 ρ2 π2 G2 H2 m2 ((e1.trans e2).trans e3) hk3 sk3 q2⟩
theorem wg_lst (F : Fam X P w K mg base N sc fv k) {vs : Nat → Prop} {es : List Expr} {n : Nat} {xs : List MV} {Q : Ro → Mm → Prop} (hx : lstOf m x = some xs) (h : Wgs X K vs es xs ρ m Q) (hn : ∀ env : Env, (assignEach es env).length = xs.length := by intro _; rfl) (hst : ∀ env : Env, (assignEach es env).findIdx? (·.1) = none := by intro _; rfl) :
    Wg X K vs (.Tuple es n pos) x ρ m Q := fun π G σ H R v hk sk rv wx => by
  obtain ⟨a, us, rfl, hs, rs⟩ := lst_real hk rv hx
  exact ⟨gLst K xs.length (TgsOf X es), fun j => F.cK j ▸ pg_lst (F.calm j) (tgsOf X es j) (hn _) (hst _), a, us, rfl, SqL.of hs, Paired.length rs, h π G σ H R us hk sk rs wx⟩
/-! ### a, b = x, y: two local names, stored from the right -/
theorem ws_par (F : Fam X P w K mg base N sc fv k) (i j : Nat) {x y : Str} {n1 n2 : Nat} {px py p1 p2 : Pos} (h : Wr X K [a, b] ρ m fun xs m1 => ∃ u v, xs = [u, v] ∧ D.nx ((ρ.set i (some u)).set j (some v)) m1)
    (hi : N[i]? = some x := by rfl) (hj : N[j]? = some y := by rfl) (hij : i ≠ j := by decide) (hx : sc.names.lookup x = some .local := by rfl) (hy : sc.names.lookup y = some .local := by rfl)
    (hw : ∀ env : Env, env.scope = sc → swappedStores [.Tuple [.Name x px, .Name y py] n1 p1] (.Tuple [a, b] n2 p2) env = pure (some [x, y]) := by intro env h; cases env; cases h; rfl)
    (hs : ∀ env : Env, swapsWithSole [.Tuple [.Name x px, .Name y py] n1 p1] (.Tuple [a, b] n2 p2) pos.line env = pure false := by intro _; rfl) : Ws1 X K (.Assign [.Tuple [.Name x px, .Name y py] n1 p1] (.Tuple [a, b] n2 p2) pos) ρ m D := fun π G σ H D' hk sk wd =>
  ⟨_, fun q => ps_par (F.calm q) (by rw [F.cN]; exact F.nd) (by rw [F.cN]; exact hi) (by rw [F.cN]; exact hj) hij (by rw [F.cS]; exact hx) (by rw [F.cS]; exact hy) (taOf X [a, b] q) (hw _ (F.cS q)) (hs _), h π G σ H _ hk sk fun vs xs π1 G1 H1 m1 e1 hk1 rvs ⟨u, v, ex, q⟩ => by
    subst ex
    obtain ⟨v1, v2, rfl, r1, r2⟩ := rvs2 rvs
    exact ⟨v1, v2, rfl, wd.nx _ _ π1 G1 H1 m1 e1 hk1 (((sk.xt e1).set r1 i).set r2 j) q⟩⟩
/-! ### list.pop(i) -/
theorem seqIx_nat {i n : Nat} (h : i < n) : seqIndex? (i : Int) n = some i := by
  unfold seqIndex?
  first | (simp; omega) | (split <;> simp <;> omega) | (rw [if_neg (by omega)]; simp; omega)
theorem paired_erase {α β : Type} {F : α → β → Prop} : ∀ {as : List α} {bs : List β} (k : Nat), Paired F as bs → Paired F (as.eraseIdx k) (bs.eraseIdx k)
  | _, _, _, .nil => .nil
  | _, _, 0, .cons _ t => t
  | _, _, k + 1, .cons r t => .cons r (paired_erase k t)
theorem we_popAt (F : Fam X P w K mg base N sc fv k) {o : Expr} {apos : Pos} (h : We X K o ρ m fun y m1 => ∃ i xs, y = .r i ∧ m1[i]? = some (.lst xs) ∧ We X K e ρ m1 fun z m2 => ∃ (n : Nat) (xs' : List MV) (x : MV), z = .d (.int n) ∧ n ≤ 100000 ∧ m2[i]? = some (.lst xs') ∧ xs'[n]? = some x ∧ Q x (m2.set i (.lst (xs'.eraseIdx n))))
    (hst : ∀ env : Env, starEach [e] env = (false, eval e env) :: starEach [] env := by intro _; rfl) (hbase : ∀ env : Env, attributeBase o "pop" env (eval o env) = eval o env := by intro _; rfl)
    (hfew : ∀ env : Env, ((backTo pos (starEach [e] env)).all (fun x => !x.1) && (backToKw pos (keywordEach [] env)).all (fun x => x.1.isSome) && decide ([e].length + ([] : List Keyword).length + (if ([] : List Keyword).isEmpty then 0 else 1) < 30)) = true := by intro _; rfl)
    (hline : (apos.endLine == pos.line) = true := by rfl) (hplain : ∀ env : Env, (backTo pos (starEach [] env)).any (·.1) = false := by intro _; rfl) :
    We X K (.Call (.Attribute o "pop" apos) [e] [] pos) ρ m Q := fun π G σ H R hk sk wv => by
  refine ⟨tBM K "list" _ (TeOf X o) (tCons (TeOf X e) tNil), fun j => F.cK j ▸ pe_bm PySem.F.plainAttrs_list PySem.F.slot_list_pop PySem.F.type_list_pop mt_popAt (teOf X o j) (pa_cons (teOf X e j) pa_nil (hst _)) (hbase _) (hfew _) hline (hst _) (hplain _), h π G σ H _ hk sk fun v y π1 G1 H1 m1 e1 hk1 rv ⟨i, xs, ey, hi, q1⟩ => ?_⟩
  subst ey
  obtain ⟨a, ha, rfl⟩ := rv
  obtain ⟨a', u, h1, h2, us, eu, ru⟩ := hk1.obj i _ hi
  rw [ha] at h1; cases h1
  subst eu
  refine ⟨Or.inl ⟨rfl, us, SqL.of h2⟩, q1 π1 G1 σ H1 _ hk1 (sk.xt e1) fun zv z π2 G2 H2 m2 e2 hk2 rz ⟨n, xs', x, ez, hn, hi', hx, q3⟩ => ?_⟩
  subst ez
  have ha2 := e2.get ha
  obtain ⟨a', u, h1', h2', us', eu, ru'⟩ := hk2.obj i _ hi'
  rw [ha2] at h1'; cases h1'
  subst eu
  have ez := Da.intI rz
  subst ez
  obtain ⟨yv, hyv, ryv⟩ := paired_getR ru' hx
  have hlt : n < us'.length := (List.getElem?_eq_some_iff.mp hyv).1
  refine ⟨a, us', n, n, yv, rfl, rfl, h2', by omega, by omega, seqIx_nat hlt, hyv, ?_⟩
  have e4 : Xt π2 G2 H2 π2 G2 (upd H2 a (.lst (us'.eraseIdx n))) := Xt.write (List.mem_of_getElem? ha2)
  exact wv _ x π2 G2 _ _ ((e1.trans e2).trans e4) (hk2.write ha2 (show Rob K G2 π2 (.lst (us'.eraseIdx n)) (.lst (xs'.eraseIdx n)) from ⟨_, rfl, paired_erase n ru'⟩)) (ryv.xt e4) q3
/-! ### slices of tuples, the whole among them -/
theorem cutV_len {α : Type} (xs : List α) : ∀ lo hi : Option Int, HT.sIx xs.length 0 lo = 0 ∧ HT.sIx xs.length xs.length hi = xs.length → cutM xs lo hi = xs := fun lo hi h => by
  unfold cutM
  rw [h.1, h.2, List.drop_zero, Nat.sub_zero, List.take_length]
theorem we_sliceTup (F : Fam X P w K mg base N sc fv k) {lo hi : Option Expr} {p2 : Pos} (h : We X K e ρ m fun x m1 => Wo X K lo ρ m1 fun l m2 => Wo X K hi ρ m2 fun u m3 => ∃ ds, x = .d (.tuple ds) ∧ Q (.d (.tuple (cutM ds l u))) m3) : We X K (.Subscript e (.Slice lo hi none p2) pos) ρ m Q := fun π G σ H R hk sk wv => by
  refine ⟨tSl (rSlA K) (TeOf X e) (ToOf X lo) (ToOf X hi), fun j => F.cK j ▸ pe_slice sl_tupA (teOf X e j) (toOf X lo j) (toOf X hi j), ?_⟩
  refine h π G σ H _ hk sk fun v x π1 G1 H1 m1 e1 hk1 rv q1 => wo_reads q1 hk1 (sk.xt e1) fun l π2 G2 H2 m2 e2 hk2 q2 => wo_reads q2 hk2 (sk.xt (e1.trans e2)) fun u π3 G3 H3 m3 e3 hk3 ⟨ds, ex, q⟩ => ?_
  subst ex
  have rv3 := rv.xt (e2.trans e3)
  obtain ⟨a, us, rfl, s1, r1⟩ := Da.tupI rv3
  have ll := r1.len
  have e13 := (e1.trans e2).trans e3
  refine ⟨a, us, rfl, Same.tupq hk3.sub s1, fun hw => ?_, fun hw pa hp => ?_⟩
  · rw [ll] at hw
    rw [cutV_len ds l u hw] at q
    exact wv _ (.d (.tuple ds)) π3 G3 H3 m3 e13 hk3 (Da.tup s1 r1) q
  · have ec : DaAll K G3 (cutV us l u) (cutM ds l u) := by
      unfold cutV cutM
      rw [ll]
      exact (r1.drop _).take _
    exact newt hk3 hp ec q (wv.xt e13)
/-! ### names of the module that are texts -/
theorem we_gstr (F : Fam X P w K mg base N sc fv k) {nm : Str} {i : Str} (hm : ∃ t, mg nm = some (.str i t)) (q : Q (.d (.str i)) m) (hg : sc.names.lookup nm = some .globalImplicit := by rfl) (hb : (nm == ("__debug__" : Str)) = false := by decide) : We X K (.Name nm pos) ρ m Q := by
  obtain ⟨t, hm⟩ := hm
  exact we_c (v := .str i) (fun j => pe_glob (F.gl hg j) (by rw [F.cM j]; exact hm) ⟨t, rfl⟩ hb) (fun _ => .str i) q
/-! ### not in -/
theorem op_notInP {X : Cx} {k : Nat} (hr : Room k X.A) : OpR X (compareOp .NotIn) (fun x y H Q => ∃ d xs, Da X.K H x d ∧ (Da X.K H y (.list xs) ∨ Da X.K H y (.tuple xs)) ∧ PyData.plainAll xs = true ∧ d.plain = true ∧ min (PyData.depthAll xs) d.depth ≤ 100 ∧ Q (.bl (!xs.any fun z => PyData.eqv z d)) H) := by
  intro pins s σ H x y v u Q I rx ry h
  obtain ⟨d, xs, hd, he, sd, se, hm, q⟩ := h
  obtain ⟨as, r1⟩ := da_reads I hd v rx
  have room : X.A.units + 1 + min (PyData.depthAll xs) d.depth < cLine := by have := un_of hr (n := 140) (by omega); omega
  rcases he with he | he
  · exact let ⟨_, r2⟩ := da_reads I he u ry; PySem.SeqAt.notIn_list_data r2 r1 sd se room ⟨.bl _, H, I, rfl, q⟩
  · exact let ⟨_, r2⟩ := da_reads I he u ry; PySem.SeqAt.notIn_tuple_data r2 r1 sd se room ⟨.bl _, H, I, rfl, q⟩
theorem o_notIn (F : Fam X P w K mg base N sc fv k) {d : PyData} {xs : List PyData} (hx : datOf m x = some d) (hy : datOf m y = some (.list xs) ∨ datOf m y = some (.tuple xs)) (h1 : PyData.plainAll xs = true) (h2 : d.plain = true) (hm : min (PyData.depthAll xs) d.depth ≤ 100) (q : Q (.d (.bool (!xs.any fun z => PyData.eqv z d))) m) : OpW X K (compareOp .NotIn) x y m Q := fun π G H R u v hk ru rv wv =>
  ⟨fun x y H Q => ∃ d xs, Da K H x d ∧ (Da K H y (.list xs) ∨ Da K H y (.tuple xs)) ∧ PyData.plainAll xs = true ∧ d.plain = true ∧ min (PyData.depthAll xs) d.depth ≤ 100 ∧ Q (.bl (!xs.any fun z => PyData.eqv z d)) H, fun j => F.cK j ▸ op_notInP (F.room j), d, xs, dat_real hk ru hx, hy.imp (dat_real hk rv) (dat_real hk rv), h1, h2, hm, wv _ (.d (.bool _)) π G H m Xt.refl hk (Da.bl _) q⟩
end
end Wn
set_option Elab.async false
set_option linter.all false
set_option maxRecDepth 100000
set_option maxHeartbeats 2000000
set_option autoImplicit false
namespace Wn
open PySem L2
/-! ### texts: str, join with a sign, partition, split, int, times 0 or 1 -/
theorem op_mul01 {X : Cx} : OpR X (binaryOp .Mult) (fun x y H Q => ∃ (a : Str) (b : Bool), x = .str a ∧ y = .int (if b then 1 else 0) ∧ Q (.str (if b then a else Str.empty)) H) := by
  intro pins s σ H x y v u Q I rx ry h
  obtain ⟨a, b, rfl, rfl, q⟩ := h
  obtain ⟨t, rfl⟩ := rx
  obtain ⟨t2, rfl⟩ := ry
  cases b with
  | false => exact PySem.P.mul_str_none (by decide) (by decide) ⟨.str _, H, I.tok _, ⟨_, rfl⟩, q⟩
  | true => exact PySem.P.mul_str (n := 1) (by decide) (fun _ h => absurd h (by simp)) (fun _ h => absurd h (by simp)) (show (Made.val (.str a t)).post _ _ from ⟨.str a, H, I, ⟨t, rfl⟩, q⟩)
theorem mkS_num (n : Nat) : Str.ofString (toString ((n : Nat) : Int)) = mkS (TL.numL n) := by
  rw [← TL.tl_num n]
  exact (mkS_of _).symm
theorem mkS_app (s t : List Nat) : mkS s ++ mkS t = mkS (s ++ t) := by
  show Str.mk _ = Str.mk _
  simp [mkS]
theorem log_lt {n : Nat} (h : n < 2 ^ 1000) : ((n : Nat) : Int).natAbs.log2 < 1920 := by
  rw [Int.natAbs_natCast]
  by_cases h0 : n = 0
  · subst h0; decide
  · have := (Nat.log2_lt h0).mpr h
    omega
section
variable {ι : Type} {X : ι → Cx} {P : Program} {w : World} {K : PySem.W.Frag} {mg : Str → Option Value} {base : Heap} {N : List Str} {sc : Scope} {fv : Str → Bool} {k : Nat} {ρ : Ro} {m : Mm} {Q : QV} {D : Ed} {a b e f : Expr} {pos p : Pos} {x y : MV}
theorem o_mul01 {l : List Nat} {c : Bool} (q : Q (.d (sD (if c then l else []))) m) : OpW X K (binaryOp .Mult) (.d (sD l)) (.d (.int (if c then 1 else 0))) m Q := fun π G H R u v hk ru rv wv => by
  refine ⟨_, fun _ => op_mul01, mkS l, c, Da.strI ru, Da.intI rv, ?_⟩
  have e1 : (if c then mkS l else Str.empty) = mkS (if c then l else []) := by cases c <;> rfl
  rw [e1]
  exact wv _ (.d (sD _)) π G H m Xt.refl hk (Da.str _) q
theorem c_strI {n : Nat} (h : n < 2 ^ 1000) (q : Q (.d (sD (TL.numL n))) m) : CaW X K (.type "str") [.d (.int (n : Nat))] m Q := fun π G H R vs hk rs wv => by
  obtain ⟨v, rfl, rv⟩ := rvs1 rs
  refine ⟨_, fun _ => call_str_int, (n : Int), by rw [Da.intI rv], log_lt h, ?_⟩
  rw [mkS_num]
  exact wv _ (.d (sD _)) π G H m Xt.refl hk (Da.str _) q
theorem c_strT {l : List Nat} (q : Q (.d (sD l)) m) : CaW X K (.type "str") [.d (sD l)] m Q := fun π G H R vs hk rs wv => by
  obtain ⟨v, rfl, rv⟩ := rvs1 rs
  exact ⟨_, fun _ => SkE.call_str_str, mkS l, by rw [Da.strI rv], wv _ (.d (sD _)) π G H m Xt.refl hk (Da.str _) q⟩
theorem b_str (F : Fam X P w K mg base N sc fv k) (hm : mg "str" = none) (h : We X K e ρ m fun x m1 => (∃ n : Nat, x = .d (.int (n : Nat)) ∧ n < 2 ^ 1000 ∧ Q (.d (sD (TL.numL n))) m1) ∨ ∃ l : List Nat, x = .d (sD l) ∧ Q (.d (sD l)) m1) (hg : sc.names.lookup ("str" : Str) = some .globalImplicit := by rfl) (he : ∀ env : Env, starEach [e] env = (false, eval e env) :: starEach [] env := by intro _; rfl) (hpl : ∀ env : Env, (backTo pos (starEach [] env)).any (·.1) = false := by intro _; rfl) :
    We X K (.Call (.Name "str" p) [e] [] pos) ρ m Q := we_callT F (wr_cons (h.mono fun x m1 h => wr_nil (by
      rcases h with ⟨n, ex, hn, q⟩ | ⟨l, ex, q⟩
      · subst ex; exact c_strI hn q
      · subst ex; exact c_strT q)) he) hm bo_str hg (by decide) (by decide) he hpl
theorem c_intS {n : Nat} (h : n < 10 ^ 100) (q : Q (.d (.int (n : Nat))) m) : CaW X K (.type "int") [.d (sD (TL.numL n))] m Q := fun π G H R vs hk rs wv => by
  obtain ⟨v, rfl, rv⟩ := rvs1 rs
  have hl := TL.numL_len (by decide) h
  have e1 : intText? (mkS (TL.numL n)) = some (n : Int) := by rw [← mkS_num]; exact TL.int_num (by omega)
  exact ⟨_, fun _ => call_int_str, mkS (TL.numL n), (n : Int), by rw [Da.strI rv], e1, by rw [mkS_len]; omega, wv _ (.d (.int _)) π G H m Xt.refl hk (Da.int _) q⟩
theorem b_intS (F : Fam X P w K mg base N sc fv k) (B : Bt mg) (h : We X K e ρ m fun x m1 => ∃ n : Nat, x = .d (sD (TL.numL n)) ∧ n < 10 ^ 100 ∧ Q (.d (.int (n : Nat))) m1) (hg : sc.names.lookup ("int" : Str) = some .globalImplicit := by rfl) (he : ∀ env : Env, starEach [e] env = (false, eval e env) :: starEach [] env := by intro _; rfl) (hpl : ∀ env : Env, (backTo pos (starEach [] env)).any (·.1) = false := by intro _; rfl) :
    We X K (.Call (.Name "int" p) [e] [] pos) ρ m Q := we_callT F (wr_cons (h.mono fun x m1 ⟨n, ex, hn, q⟩ => by subst ex; exact wr_nil (c_intS hn q)) he) B.int bo_int hg (by decide) (by decide) he hpl
theorem mkS_join (s : List Nat) (ls : List (List Nat)) : Txt.join (mkS s) (ls.map mkS) = mkS (TL.joinL s ls) := by
  rw [TL.join_eq]
  have := TL.tl_join (mkS s) (ls.map mkS)
  rw [show TL.tl (mkS s) = s from mkS_tl s, List.map_map] at this
  have e2 : ls.map (TL.tl ∘ mkS) = ls := by
    conv => rhs; rw [← List.map_id ls]
    apply List.map_congr_left
    intro l _
    exact mkS_tl l
  rw [e2] at this
  rw [← this]
  exact (mkS_of _).symm
theorem sum_mkS (ls : List (List Nat)) : ((ls.map mkS).map (·.length)).sum = (ls.map (·.length)).sum := by
  rw [List.map_map]
  have : ls.map ((fun x : Str => x.length) ∘ mkS) = ls.map (·.length) := by
    apply List.map_congr_left
    intro l _
    exact mkS_len l
  rw [this]
theorem we_joinS (F : Fam X P w K mg base N sc fv k) {o : Expr} {apos : Pos} (h : We X K o ρ m fun y m1 => ∃ s : List Nat, y = .d (sD s) ∧ We X K e ρ m1 fun x m2 => ∃ ls : List (List Nat), lstOf m2 x = some (ls.map fun l => .d (sD l)) ∧ (ls.map (·.length)).sum + ls.length * s.length ≤ 100000 ∧ Q (.d (sD (TL.joinL s ls))) m2)
    (hs : ∀ env : Env, starEach [e] env = [(false, eval e env)] := by intro _; rfl) (hbase : ∀ env : Env, attributeBase o "join" env (eval o env) = eval o env := by intro _; rfl) (hline : (apos.endLine == pos.line) = true := by rfl) :
    We X K (.Call (.Attribute o "join" apos) [e] [] pos) ρ m Q := fun π G σ H R hk sk wv => by
  refine ⟨tM1 (fun x xs H Q => ∃ a p, ∃ ys : List Str, x = .str a ∧ xs = [.ref p] ∧ (SqL K H p (ys.map V.str) ∨ SqT K H p (ys.map V.str)) ∧ (ys.map (·.length)).sum + ys.length * a.length ≤ 16777216 ∧ Q (.str (Txt.join a ys)) H) (TeOf X o) (TeOf X e), fun j => F.cK j ▸ pe_join (teOf X o j) (teOf X e j) (hs _) (hbase _) hline, h π G σ H _ hk sk fun v y π1 G1 H1 m1 e1 hk1 rv ⟨s, ey, q1⟩ => ?_⟩
  subst ey
  have ev := Da.strI rv
  refine ⟨⟨_, ev⟩, q1 π1 G1 σ H1 _ hk1 (sk.xt e1) fun u x π2 G2 H2 m2 e2 hk2 ru ⟨ls, hx, hl, q⟩ => ?_⟩
  obtain ⟨a, us, rfl, hs2, rs⟩ := lst_real hk2 ru hx
  rw [strs_real rs] at hs2
  refine ⟨mkS s, a, ls.map mkS, ev, rfl, .inl (SqL.of hs2), by rw [sum_mkS, mkS_len, List.length_map]; omega, ?_⟩
  rw [mkS_join]
  exact wv _ (.d (sD _)) π2 G2 H2 m2 (e1.trans e2) hk2 (Da.str _) q
theorem we_part (F : Fam X P w K mg base N sc fv k) {o : Expr} {apos : Pos} (h : We X K o ρ m fun y m1 => ∃ t : List Nat, y = .d (sD t) ∧ We X K e ρ m1 fun x m2 => ∃ (c : Nat) (u v : List Nat), x = .d (sD [c]) ∧ t = u ++ c :: v ∧ c ∉ u ∧ t.length ≤ 100000 ∧ Q (.d (.tuple [sD u, sD [c], sD v])) m2)
    (hs : ∀ env : Env, starEach [e] env = [(false, eval e env)] := by intro _; rfl) (hbase : ∀ env : Env, attributeBase o "partition" env (eval o env) = eval o env := by intro _; rfl) (hline : (apos.endLine == pos.line) = true := by rfl) :
    We X K (.Call (.Attribute o "partition" apos) [e] [] pos) ρ m Q := fun π G σ H R hk sk wv => by
  refine ⟨_, fun j => pe_partition (teOf X o j) (teOf X e j) (hs _) (hbase _) hline, h π G σ H _ hk sk fun v y π1 G1 H1 m1 e1 hk1 rv ⟨t, ey, q1⟩ => ?_⟩
  subst ey
  have ev := Da.strI rv
  refine ⟨⟨_, ev⟩, q1 π1 G1 σ H1 _ hk1 (sk.xt e1) fun u x π2 G2 H2 m2 e2 hk2 ru ⟨c, ul, vl, ex, et, hc, hl, q⟩ => ?_⟩
  subst ex
  have ep : Txt.partition (mkS t) (mkS [c]) = (mkS ul, mkS [c], mkS vl) := by
    have e3 : mkS t = mkS ul ++ mkS [c] ++ mkS vl := by
      rw [et, mkS_app, mkS_app, List.append_assoc]
      rfl
    rw [e3]
    exact TL.partition_app (y := mkS [c]) (s := c) (S := []) rfl (by show c ∉ (mkS ul).cps.toList; rw [mkS_tl]; exact hc)
  refine ⟨mkS t, mkS [c], ev, by rw [Da.strI ru], by rw [mkS_len]; rfl, by rw [mkS_len]; exact Nat.le_trans hl (by decide), fun pa hp => ?_⟩
  rw [ep]
  exact newt hk2 hp (.cons (Da.str _) (.cons (Da.str _) (.cons (Da.str _) .nil))) q (wv.xt (e1.trans e2))
theorem we_splitS (F : Fam X P w K mg base N sc fv k) {o : Expr} {apos : Pos} (h : We X K o ρ m fun y m1 => ∃ t : List Nat, y = .d (sD t) ∧ We X K e ρ m1 fun x m2 => ∃ (c : Nat) (ls : List (List Nat)), x = .d (sD [c]) ∧ t = TL.joinL [c] ls ∧ ls ≠ [] ∧ (∀ l ∈ ls, c ∉ l) ∧ c < 256 ∧ t.length ≤ 100000 ∧ NewL ((ls.map sD).map .d) m2 Q)
    (hs : ∀ env : Env, starEach [e] env = [(false, eval e env)] := by intro _; rfl) (hbase : ∀ env : Env, attributeBase o "split" env (eval o env) = eval o env := by intro _; rfl) (hline : (apos.endLine == pos.line) = true := by rfl) :
    We X K (.Call (.Attribute o "split" apos) [e] [] pos) ρ m Q := fun π G σ H R hk sk wv => by
  refine ⟨_, fun j => pe_split (teOf X o j) (teOf X e j) (hs _) (hbase _) hline, h π G σ H _ hk sk fun v y π1 G1 H1 m1 e1 hk1 rv ⟨t, ey, q1⟩ => ?_⟩
  subst ey
  have ev := Da.strI rv
  refine ⟨⟨_, ev⟩, q1 π1 G1 σ H1 _ hk1 (sk.xt e1) fun u x π2 G2 H2 m2 e2 hk2 ru ⟨c, ls, ex, et, hne, hc, hc2, hl, q⟩ => ?_⟩
  subst ex
  have es : Txt.split (mkS t) (mkS [c]) = ls.map mkS := by
    rw [et, ← mkS_join]
    refine TL.split_join (y := mkS [c]) (s := c) (S := []) rfl (by simp [mkS, hc2]) (by simpa using hne) fun p hp => ?_
    obtain ⟨l, hl, rfl⟩ := List.mem_map.mp hp
    show c ∉ (mkS l).cps.toList
    rw [mkS_tl]; exact hc l hl
  refine ⟨mkS t, mkS [c], ev, by rw [Da.strI ru], by rw [mkS_len]; rfl, by rw [mkS_len]; exact Nat.le_trans (Nat.add_le_add_right hl 2) (by decide), fun pa hp => ?_⟩
  rw [es]
  refine newl hk2 hp ?_ q (wv.xt (e1.trans e2))
  clear q et hne hc es
  induction ls with
  | nil => exact .nil
  | cons l ls ih => exact .cons (Da.str _) ih
theorem o_notInT {c : Nat} {j : Str} {r : Bool} (hr : (!(!(Builtin.Str.occurrences j (mkS [c]) 0 j.length 1).isEmpty)) = r) (q : Q (.d (.bool r)) m) : OpW X K (compareOp .NotIn) (.d (sD [c])) (.d (.str j)) m Q := fun π G H R u v hk ru rv wv => by
  refine ⟨_, fun _ => op_notIn_str, mkS [c], j, Da.strI ru, Da.strI rv, ?_⟩
  rw [hr]
  exact wv _ (.d (.bool _)) π G H m Xt.refl hk (Da.bl _) q
theorem we_gtup (F : Fam X P w K mg base N sc fv k) {nm : Str} {xs : List V} {ds : List PyData} (hm : ∃ a, mg nm = some (.ref a) ∧ (∀ G, SqT K G a xs) ∧ ∀ G, DaAll K G xs ds) (q : Q (.d (.tuple ds)) m) (hg : sc.names.lookup nm = some .globalImplicit := by rfl) (hb : (nm == ("__debug__" : Str)) = false := by decide) : We X K (.Name nm pos) ρ m Q := by
  obtain ⟨a, hm, hs, hd⟩ := hm
  exact we_c (v := .ref a) (fun j => pe_glob (F.gl hg j) (by rw [F.cM j]; exact hm) rfl hb) (fun G => Da.tup (hs G) (hd G)) q
/-- for sign in text -/
theorem wi_text (F : Fam X P w K mg base N sc fv k) {tg : Expr} {Q : List MV → (Mm → Prop) → Mm → Prop} (h : We X K e ρ m fun x m1 => ∃ l : List Nat, x = .d (sD l) ∧ Q (l.map fun c => .d (sD [c])) (fun _ => True) m1) : Wi X K tg e ρ m Q := fun π G σ H R hk sk wr => by
  refine ⟨_, fun j => pi_str (teOf X e j), h π G σ H _ hk sk fun v x π1 G1 H1 m1 e1 hk1 rv ⟨l, ex, q⟩ => ?_⟩
  subst ex
  refine ⟨mkS l, Da.strI rv, wr _ _ _ π1 G1 H1 m1 e1 hk1 (fun π3 G3 H3 m3 e3 hk3 _ => ?_) q⟩
  have sz : (mkS l).cps.size = l.length := by simp [mkS]
  rw [List.length_map]
  refine ⟨fun i hi => by show i < (mkS l).cps.size; rw [sz]; exact hi, by show (mkS l).cps.size ≤ l.length; rw [sz]; exact Nat.le_refl _, fun i v H4 hi yl => ?_⟩
  obtain ⟨eH, c, hc, ev⟩ := yl
  subst eH ev
  have hc' : l[i]? = some c := by simpa [mkS] using hc
  exact ⟨.d (sD [c]), G3, by rw [List.getElem?_map, hc']; rfl, Xt.refl, hk3, Da.str _⟩
end
end Wn
set_option Elab.async false
set_option linter.all false
set_option maxRecDepth 100000
set_option maxHeartbeats 2000000
set_option autoImplicit false
namespace Wn
open PySem L2 PyProof.Rows
/-! ### t[::-1] of a tuple -/
section
variable {prog : Program} {w : World} {A : Around} {E : Value → Shared → Prop} {s : Shared}
theorem rev_adjust (n : Nat) : Builtin.Slice.sliceAdjust none none (-1) (n : Int) = ((n : Int) - 1, -1) := by
  unfold Builtin.Slice.sliceAdjust
  have h1 : ((-1 : Int) < 0) := by omega
  simp only [h1, if_true]
theorem rev_places (n : Nat) : Builtin.Slice.slicePlaces ((n : Int) - 1) (-1) (-1) = n := by
  unfold Builtin.Slice.slicePlaces
  have h1 : ¬ ((-1 : Int) > 0) := by omega
  have h2 : (- -1 : Int) = 1 := by omega
  rw [if_neg h1, h2, Int.ediv_one]
  split <;> omega
theorem rev_applied {sl : Addr} {vk : Value} {n : Nat} {Q : Int × Int × Nat → Shared → Prop} (hs : s.heap.IsSliceOf sl .none .none vk) (pk : IsPart vk (some (-1))) (h : Q ((n : Int) - 1, -1, n) s) : wpAny (model prog w) A (Builtin.Slice.sliceApplied (.ref sl) (pure (n : Int))) Q E s := by
  obtain ⟨os, hos, _, hds⟩ := hs
  unfold Builtin.Slice.sliceApplied Builtin.Slice.sliceFields
  refine wpAny_bind (wpAny_bind (wpAny_field hos hds (x := .none) rfl (wpAny_bind (wpAny_field hos hds (x := .none) rfl (wpAny_bind (wpAny_field hos hds (x := vk) rfl (wpAny_pure (wpAny_bind (HT.slicePart_ pk ?_)))))))))
  show wpAny _ _ (if ((-1 : Int) == 0) = true then _ else _) _ _ s
  rw [if_neg (by decide)]
  refine wpAny_bind (HT.slicePart_ .none (wpAny_bind (HT.slicePart_ .none (wpAny_bind (wpAny_pure ?_)))))
  show wpAny _ _ (match Builtin.Slice.sliceAdjust none none (-1) (n : Int) with | (lo, hi) => pure (lo, (-1 : Int), Builtin.Slice.slicePlaces lo hi (-1))) _ _ s
  rw [rev_adjust]
  show wpAny _ _ (pure ((n : Int) - 1, (-1 : Int), Builtin.Slice.slicePlaces ((n : Int) - 1) (-1) (-1))) _ _ s
  rw [rev_places]
  exact wpAny_pure h
theorem rev_picks (xs : Array Value) : (List.range xs.size).filterMap (fun k : Nat => xs[(((xs.size : Nat) : Int) - 1 + (k : Int) * (-1)).toNat]?) = xs.toList.reverse := by
  have e : (fun k : Nat => xs[(((xs.size : Nat) : Int) - 1 + (k : Int) * (-1)).toNat]?) = (fun i : Nat => xs[i]?) ∘ fun k : Nat => xs.size - 1 - k := by
    funext k
    have e2 : (((xs.size : Nat) : Int) - 1 + (k : Int) * (-1)).toNat = xs.size - 1 - k := by omega
    show xs[(((xs.size : Nat) : Int) - 1 + (k : Int) * (-1)).toNat]? = xs[xs.size - 1 - k]?
    rw [e2]
  rw [e, ← List.filterMap_map, PySem.W.krv_range, List.filterMap_reverse, PySem.W.krv_all]
theorem rev_item {t sl : Addr} {items : Array Value} {vk : Value} {Q : Value → Shared → Prop} (ht : IsTup s.heap t items) (hs : s.heap.IsSliceOf sl .none .none vk) (pk : IsPart vk (some (-1))) (hz : items.size ≤ sizeLine)
    (h : Q (.ref s.heap.objs.size) { s with heap := s.heap.push { cls := .type "tuple", data := .seq items.toList.reverse.toArray } }) : wpAny (model prog w) A (getItem (.ref t) (.ref sl)) Q E s := by
  have ok : sizeOk (.seq items.toList.reverse.toArray) := by
    show items.toList.reverse.toArray.size ≤ sizeLine
    simpa using hz
  obtain ⟨os, hos, hcs, hds⟩ := id hs
  have isl : s.TypeIs (.ref sl) "slice" := ⟨os, hos, hcs⟩
  unfold getItem
  try with_reducible refine wpAny_holding ?_
  first | refine wpAny_bind (wpAny_pure ?_) | skip
  refine wpAny_bind (wpAny_sequenceKey ht.typeIs (by decide) (wpAny_bind (wpAny_callSpecial?_slot (name := Str.ofString "__getitem__") ht.typeIs PyProof.Rows.slot_tuple_getitem (wpAny_call_entry PyProof.Rows.slot_tuple_getitem ht.typeIs PyProof.Rows.entry_tuple_getitem ?_ (PyProof.Rows.args_tuple_getitem _ _)))))
  show wpAny _ _ (Builtin.Tuple.tupleItemsOf (.ref t) >>= fun _ => _) _ _ s
  refine wpAny_bind (PyProof.Rows.tupleItemsOf_ ht (wpAny_bind (wpAny_typeOf isl ?_)))
  rw [if_pos (by decide)]
  refine wpAny_bind (rev_applied hs pk ?_)
  show wpAny _ _ (if (((items.size : Nat) : Int) - 1 == 0 && (-1 : Int) == 1 && items.size == items.size) = true then _ else _) _ _ s
  rw [if_neg (by simp), rev_picks]
  first
    | exact wpAny_bind (m := Builtin.Tuple.tupleExact _) (wpAny_newObj_type (wpAny_pure ⟨_, rfl, wpAny_pure h⟩) ok)
    | exact wpAny_bind (wpAny_bind (m := Builtin.Tuple.tupleExact _) (wpAny_newObj_type (wpAny_pure ⟨_, rfl, wpAny_pure h⟩) ok))
end
def tRevT (K : PySem.W.Frag) (te : TE) : TE := fun σ H Q => te σ H fun x H1 => ∃ a xs, x = .ref a ∧ SqT K H1 a xs ∧ ∀ p, H1 p = none → Q (.ref p) (upd H1 p (.tup xs.reverse))
theorem pe_revT {X : Cx} {e : Expr} {te : TE} {k : Nat} {p1 p2 p3 pos : Pos} (he : PE X e te) : PE X (.Subscript e (.Slice none none (some (.UnaryOp .USub (.Constant (.int 1) k p1) p2)) p3) pos) (tRevT X.K te) := by
  refine ⟨fun pins s σ H Q I h => Subscript_ (thn (he.run pins s σ H _ I h) fun v s1 ⟨x, H1, I1, r1, a, xs, ex, hx, q⟩ => ?_)⟩
  subst ex
  cases r1
  have step : PO X (some (.UnaryOp .USub (.Constant (.int 1) k p1) p2)) (tPart (tUn (rU fun i => .int (-i)) (tC (.int 1)))) := po_some (pe_un un_neg pe_int)
  refine wpAny_Slice (thn (po_none.run pins s1 σ H1 (fun o H2 => o = none ∧ H2 = H1) I1 ⟨rfl, rfl⟩) fun vl s2 ⟨l, H2, I2, pl, el, e2⟩ => ?_)
  subst el e2
  refine thn (po_none.run pins s2 σ H2 (fun o H3 => o = none ∧ H3 = H2) I2 ⟨rfl, rfl⟩) fun vu s3 ⟨u, H3, I3, pu, eu, e3⟩ => thn (step.run pins s3 σ H3 (fun o H4 => o = some (-1) ∧ H4 = H3) I3 ⟨1, rfl, -1, rfl, rfl, rfl⟩) fun vs s4 ⟨o, H4, I4, ps, eo, e4⟩ => ?_
  subst eu e3 eo e4
  cases pl
  cases pu
  have I5 : Inv X pins σ H4 { s4 with heap := s4.heap.push { cls := .type "slice", data := .fields #[.none, .none, vs] } } := I4.kept (t' := s4.toks) fun b ob z => Heap.get?_push_of_some _ z
  obtain ⟨its, r, ht, hz⟩ := I5.tuple hx
  show wpAny (model X.prog X.w) X.A (subscriptTail e (.Slice none none (some (.UnaryOp .USub (.Constant (.int 1) k p1) p2)) p3) (.ref a) (.ref s4.heap.objs.size)) (EP X pins σ Q) X.xe _
  refine tail_any (ops := [.ref a, .ref s4.heap.objs.size]) ht.typeIs PyProof.Rows.slot_tuple_getitem.lookup (rev_item ht (Heap.IsSliceOf.new _ .none .none vs) ps (by rw [List.size_toArray, ← r.length]; exact hz) ?_) (by with_unfolding_all rfl)
  refine ⟨.ref _, _, I5.laid (t' := s4.toks) (o := .tup xs.reverse) (fun b ob z => Heap.get?_push_of_some _ z) (Nat.le_refl _) ⟨by rw [List.length_reverse]; exact hz, _, ?_, IsTup.new _ _⟩, rfl, q _ (I5.hok.fresh (Nat.le_refl _))⟩
  exact r.reverse
section
variable {ι : Type} {X : ι → Cx} {P : Program} {w : World} {K : PySem.W.Frag} {mg : Str → Option Value} {base : Heap} {N : List Str} {sc : Scope} {fv : Str → Bool} {k : Nat} {ρ : Ro} {m : Mm} {Q : QV} {D : Ed} {a b e f : Expr} {pos p : Pos} {x y : MV}
theorem da_rev {G : Hp} : ∀ {vs : List V} {ds : List PyData}, DaAll K G vs ds → DaAll K G vs.reverse ds.reverse
  | _, _, .nil => .nil
  | _, _, .cons a t => by rw [List.reverse_cons, List.reverse_cons]; exact (da_rev t).append (.cons a .nil)
theorem we_revT (F : Fam X P w K mg base N sc fv k) {n : Nat} {p1 p2 p3 : Pos} (h : We X K e ρ m fun x m1 => ∃ ds, x = .d (.tuple ds) ∧ Q (.d (.tuple ds.reverse)) m1) : We X K (.Subscript e (.Slice none none (some (.UnaryOp .USub (.Constant (.int 1) n p1) p2)) p3) pos) ρ m Q := fun π G σ H R hk sk wv => by
  refine ⟨tRevT K (TeOf X e), fun j => F.cK j ▸ pe_revT (teOf X e j), h π G σ H _ hk sk fun v x π1 G1 H1 m1 e1 hk1 rv ⟨ds, ex, q⟩ => ?_⟩
  subst ex
  obtain ⟨t, us, rfl, s1, r1⟩ := Da.tupI rv
  exact ⟨t, us, rfl, Same.tupq hk1.sub s1, fun pa hp => newt hk1 hp (da_rev r1) q (wv.xt e1)⟩
theorem o_catA (F : Fam X P w K mg base N sc fv k) {xs ys : List PyData} (hl : xs.length + ys.length ≤ 1000) (q : Q (.d (.tuple (xs ++ ys))) m) : OpW X K (binaryOp .Add) (.d (.tuple xs)) (.d (.tuple ys)) m Q := fun π G H R u v hk ru rv wv => by
  obtain ⟨a, us, rfl, s1, r1⟩ := Da.tupI ru
  obtain ⟨b, vs, rfl, s2, r2⟩ := Da.tupI rv
  have l1 := r1.len
  have l2 := r2.len
  refine ⟨rCatA K, fun j => F.cK j ▸ op_catA, a, b, us, vs, rfl, rfl, Same.tupq hk.sub s1, Same.tupq hk.sub s2, by rw [l1, l2]; exact Nat.le_trans hl (by decide), fun e => ?_, fun _ e => ?_, fun _ _ pa hp => newt hk hp (r1.append r2) q wv⟩
  · subst e
    cases r1
    exact wv _ (.d (.tuple ys)) π G H m Xt.refl hk (Da.tup s2 r2) q
  · subst e
    cases r2
    rw [List.append_nil] at q
    exact wv _ (.d (.tuple xs)) π G H m Xt.refl hk (Da.tup s1 r1) q
/-- {} that nobody will change -/
theorem we_dnewD (q : Q (.d (.dict [])) m) : We X K (.Dict [] [] pos) ρ m Q := fun π G σ H R hk sk wv =>
  ⟨_, fun _ => pe_dnewK, fun pa hp => wv _ (.d (.dict [])) π (upd G pa (.dK [])) _ m (Xt.new hp (hk.sub.free hp)) (hk.new hp) (Da.dct upd_same .nil) q⟩
end
/-- what repr takes -/
def rRepX (K : PySem.W.Frag) : List V → Hp → VK → Prop := fun xs H Q => (∃ v, xs = [v] ∧ Da K H v (.dict []) ∧ Q (.str "{}") H) ∨ rRepr K xs H Q
theorem cr_repX {X : Cx} {k : Nat} (hr : Room k X.A) (hg : X.A.guards = some []) : CallR X (.builtin "repr") (rRepX X.K) := by
  intro pins s σ H xs us Q I r h
  rcases h with ⟨v, rfl, hd, q⟩ | h
  · obtain ⟨u, rfl, ru⟩ := vals1 r
    cases hd with
    | @dct a kvs ds h1 h2 =>
      cases h2
      cases ru
      obtain ⟨_, ns, vs, kv, o, es, ep, e, ex, ed, _, pr, _⟩ := (show ObjOk X.prog X.w H s.heap a (.dK []) from I.hok a _ h1)
      cases kv
      have ee : es.toList = [] := by cases hE : es.toList with
        | nil => rfl
        | cons z zs => rw [hE] at pr; cases pr
      have rd : Reads s.heap (.ref a) (.dict []) (a :: [] ++ []) := Reads.dict e ex.1 ed (by rw [ee]; exact .nil) (by rw [ee]; exact .nil)
      refine repr_of_reads' rd rfl (fun _ hm => ?_) hg (un_of hr (by decide)) (fun _ _ z => z) (fun h' u tk hk => ⟨.str _, H, I.kept (t' := tk) hk, ⟨u, rfl⟩, q⟩) (by decide +kernel)
      simp at hm
      subst hm
      simp at ns
  · exact cr_repr hr hg pins s σ H xs us Q I r h
/-- small things: each leaf's text short, not too many leaves, no dict but the empty one alone -/
def Shw (d : PyData) : Prop := d = .dict [] ∨ (d.showable = true ∧ d.hasDict = false ∧ d.depth ≤ 100 ∧ d.shown.length ≤ sizeLine)
section
variable {ι : Type} {X : ι → Cx} {P : Program} {w : World} {K : PySem.W.Frag} {mg : Str → Option Value} {base : Heap} {N : List Str} {sc : Scope} {fv : Str → Bool} {k : Nat} {ρ : Ro} {m : Mm} {Q : QV} {D : Ed} {a b e f : Expr} {pos p : Pos} {x y : MV}
theorem c_repX (F : Fam X P w K mg base N sc fv k) (hg : ∀ j, (X j).A.guards = some []) {d : PyData} (h : Shw d) (q : Q (.d (.str d.shown)) m) : CaW X K (.builtin "repr") [.d d] m Q := fun π G H R vs hk rs wv => by
  obtain ⟨v, rfl, rv⟩ := rvs1 rs
  have da : Da K H v d := da_mono hk.sub rv
  have out := wv (.str d.shown) (.d (.str d.shown)) π G H m Xt.refl hk (Da.str _) q
  rcases h with rfl | ⟨h1, h2, h3, h4⟩
  · exact ⟨rRepX K, fun j => F.cK j ▸ cr_repX (F.room j) (hg j), .inl ⟨v, rfl, da, out⟩⟩
  · exact ⟨rRepX K, fun j => F.cK j ▸ cr_repX (F.room j) (hg j), .inr ⟨v, d, rfl, da, h1, h2, h3, h4, out⟩⟩
theorem b_repX (F : Fam X P w K mg base N sc fv k) (hg : ∀ j, (X j).A.guards = some []) (hm : mg "repr" = none) (h : We X K e ρ m fun x m1 => ∃ d, x = .d d ∧ Shw d ∧ Q (.d (.str d.shown)) m1) (hgl : sc.names.lookup ("repr" : Str) = some .globalImplicit := by rfl) (he : ∀ env : Env, starEach [e] env = (false, eval e env) :: starEach [] env := by intro _; rfl) (hpl : ∀ env : Env, (backTo pos (starEach [] env)).any (·.1) = false := by intro _; rfl) :
    We X K (.Call (.Name "repr" p) [e] [] pos) ρ m Q := we_callB F (wr_cons (h.mono fun x m1 ⟨d, ex, hd, q⟩ => by subst ex; exact wr_nil (c_repX F hg hd q)) he) hm bo_repr hgl (by decide) (by decide) he hpl
end
end Wn
set_option Elab.async false
set_option linter.all false
set_option maxRecDepth 100000
set_option maxHeartbeats 2000000
set_option autoImplicit false
namespace Wn
open PySem L2 PyProof.Rows
abbrev Xf := Option (List (Str × MV))
abbrev EV := Addr → Xf → Mm → Prop
/-! ### defs that may raise -/
def WxE (K : PySem.W.Frag) (π : List Addr) (G H : Hp) (Em : EV) (E : XK) : Prop := ∀ C d fo π' G' H' m', Xt π G H π' G' H' → Hk K π' G' H' m' → Fx K π' G' H' d fo → (∀ dd, d = some dd → H dd = none) → Em C fo m' → E (.ref C) d H'
def spX (K : PySem.W.Frag) (S : List MV → Mm → QV → EV → Prop) : Sp := fun vs H Q E => ∃ π G m xs Qm Em, Hk K π G H m ∧ Rvs K G π vs xs ∧ S xs m Qm Em ∧ Wv K π G H Qm Q ∧ WxE K π G H Em E
def RetX (n : Nat) (Em : EV) (C : Addr) (fo : Xf) (m' : Mm) : Prop := Em C fo m' ∨ ((∀ o ∈ m'.take n, o.sc n) ∧ (∀ gs, fo = some gs → ∀ p ∈ gs, p.2.sc n) ∧ Em C fo (m'.take n))
def EndX (n : Nat) (Q : QV) (Em : EV) : Ed := { EndF n Q with ex := fun C fo _ m' => RetX n Em C fo m' }
section
variable {P : Program} {w : World} {K : PySem.W.Frag} {mg : Str → Option Value} {base : Heap} {π π1 : List Addr} {G H G1 H1 : Hp} {m : Mm}
theorem fx_cut {n : Nat} {d : Option Addr} {fo : Xf} (h : Fx K π G H d fo) (s : ∀ gs, fo = some gs → ∀ p ∈ gs, p.2.sc n) : Fx K (π.take n) G H d fo := by
  cases fo with
  | none =>
    cases d with
    | none => trivial
    | some _ => exact h.elim
  | some gs =>
    cases d with
    | none => exact h.elim
    | some dd =>
      obtain ⟨fs, h1, h2, h3, h4⟩ := h
      exact ⟨fs, h1, paired_map_mem h2 fun a b hb r => ⟨r.1, r.2.cut (s gs rfl b hb)⟩, fun z => h3 (List.mem_of_mem_take z), h4⟩
theorem retx_wish {Em : EV} {E : XK} (hk : Hk K π G H m) (we : WxE K π G H Em E) : WxE K π G H (RetX m.length Em) E := fun C d fo π' G' H' m' e hk' fx nd q => by
  rcases q with q | ⟨s, sf, q⟩
  · exact we C d fo π' G' H' m' e hk' fx nd q
  · obtain ⟨τ, et, ft⟩ := e.p
    have tk : π'.take m.length = π := by rw [et, ← hk.len]; simp
    have h2 := hk'.drop s
    have f2 := fx_cut fx sf
    rw [tk] at h2 f2
    exact we C d fo π G' H' _ ⟨e.g, ⟨[], by simp, by simp⟩, e.fr, e.al, e.n⟩ h2 f2 nd q
theorem fn_x {nm qual : Str} {st : Stmt} {f : Addr} {fd : FuncData} {N ps : List Str} {k : Nat} {T : List MV → Mm → QV → EV → Prop} (F : Fun K nm qual st f fd) (S : FnScope N ps (defScope st)) (len : ∀ xs m Q Em, T xs m Q Em → xs.length = ps.length)
    (body : ∀ (X : Unit → Cx), Fam X P w K mg base N (defScope st) (fun _ => true) k → ∀ xs m Q Em, T xs m Q Em → Scd m → Ws X K (defBody st) (startM N xs) m (EndX m.length Q Em)) : FnOk P w K mg base (L2.CX P w) (k + 1) f fd ps (spX K T) := by
  refine F.okX S (fun vs H Q E h => ?_) (fun cdv A outer s H vs Q E hr h => ?_)
  · obtain ⟨π, G, m, xs, Qm, Em, hk, rvs, hT, _⟩ := h
    rw [Paired.length rvs]
    exact len xs m Qm Em hT
  · obtain ⟨π, G, m, xs, Qm, Em, hk, rvs, hT, wv, we⟩ := h
    have fam : Fam (fun _ : Unit => cxOf (L2.CX P w) P w K mg base N qual (defScope st) f cdv A outer s H E) P w K mg base N (defScope st) (fun _ => true) k :=
      ⟨S.nd, fun _ => rfl, fun _ => rfl, fun _ => rfl, fun _ => rfl, fun _ => rfl, fun _ => rfl, fun _ => rfl, fun _ => rfl, fun _ => hr, fun _ => passes_of rfl, fun _ => rfl⟩
    obtain ⟨t, pt, ht⟩ := body _ fam xs m Qm Em hT hk.scd π G (L2.start N vs) H { nx := fun _ H' => Q .non H', rt := Q } hk (sk_start rvs)
      ⟨fun σ' ρ' π' G' H' m' e hk' _ q => ret_wish hk wv .non (.d .none) π' G' H' m' e hk' Da.non q, ret_wish hk wv, fun _ _ _ _ _ _ _ _ _ q => q.elim, fun _ _ _ _ _ _ _ _ _ q => q.elim,
        fun _ => (takes_of rfl rfl rfl rfl).imp fun c d σ' H' ⟨C, fo, ρ', π', G', m', e1, e2, e3, _, e5, e6, e7⟩ => by subst e1; exact retx_wish hk we C d fo π' G' H' m' e2 e3 e5 e6 e7⟩
    exact ⟨t, pt (), ht⟩
/-- where nothing is raised it is a def that never raises -/
theorem fn_cx0 {f : Addr} {fd : FuncData} {ps : List Str} {k : Nat} {T : List MV → Mm → QV → EV → Prop} (h : FnOk P w K mg base (L2.CX P w) k f fd ps (spX K T)) : FnOk P w K mg base CX0 k f fd ps (spM K fun xs m Q => T xs m Q fun _ _ _ => False) := by
  have up : ∀ {vs H Q} {E E' : XK}, spM K (fun xs m Q => T xs m Q fun _ _ _ => False) vs H Q E → spX K T vs H Q E' := fun ⟨π, G, m, xs, Qm, hk, rvs, hT, wv⟩ => ⟨π, G, m, xs, Qm, _, hk, rvs, hT, wv, fun _ _ _ _ _ _ _ _ _ _ _ z => z.elim⟩
  refine ⟨fun vs H Q E q => h.len vs H Q E (up q), fun A outer s H args us vs Q E hr he hb hv q => codeAny_mono (h.run A outer s H args us vs Q (fun _ _ _ => False) hr he hb hv (up q)) fun r s' z => ?_⟩
  match r, z with
  | .ok (.ret u), z => exact z
  | .ok .next, z => exact z
  | .ok .brk, z => exact z
  | .ok .cont, z => exact z
  | .error e, ⟨_, _, _, _, _, _, _, _, _, _, _, _, z⟩ => exact z.elim
def Cax (P : Program) (w : World) (K : PySem.W.Frag) (mg : Str → Option Value) (base : Heap) (k : Nat) (nm : Str) (n : Nat) (S : List MV → Mm → QV → EV → Prop) : Prop :=
  ∃ f fd ps, FnOk P w K mg base (L2.CX P w) k f fd ps (spX K S) ∧ mg nm = some (.ref f) ∧ PySem.W.keepIn K (.ref f) = true ∧ Binds K fd ps [] ∧ ps.length = n
theorem Cax.cal {k : Nat} {nm : Str} {n : Nat} {S : List MV → Mm → QV → EV → Prop} (C : Cax P w K mg base k nm n S) : Cal P w K mg base k nm n fun xs m Q => S xs m Q fun _ _ _ => False :=
  let ⟨f, fd, ps, h, r⟩ := C
  ⟨f, fd, ps, fn_cx0 h, r⟩
end
/-! ### expressions that may raise -/
section
variable {ι : Type} {X : ι → Cx} {P : Program} {w : World} {K : PySem.W.Frag} {mg : Str → Option Value} {base : Heap} {N : List Str} {sc : Scope} {fv : Str → Bool} {k : Nat} {ρ : Ro} {m : Mm} {Q : QV} {D : Ed} {a b c e tg it elt : Expr} {pos p : Pos} {x y z : MV} {nm : Str} {i : Nat}
def WeX (X : ι → Cx) (K : PySem.W.Frag) (e : Expr) (ρ : Ro) (m : Mm) (Q : QV) (Em : Addr → Xf → Ro → Mm → Prop) : Prop := ∀ π G σ H R, Hk K π G H m → Sk K π G σ ρ → Wv K π G H Q R → (∀ j, Takes (X j) (Wof K π G H Em)) → TeOf X e σ H R
theorem We.wex {Em : Addr → Xf → Ro → Mm → Prop} (h : We X K e ρ m Q) : WeX X K e ρ m Q Em := fun π G σ H R hk sk wv _ => h π G σ H R hk sk wv
theorem wex_call (F : Fam X P w K mg base N sc fv k) {k' n : Nat} {nm : Str} {S : List MV → Mm → QV → EV → Prop} {es : List Expr} {Em : Addr → Xf → Ro → Mm → Prop} (C : Cax P w K mg base k' nm n S) (hk' : k' ≤ k) (h : Wr X K (e :: es) ρ m fun xs m1 => S xs m1 Q fun C fo m2 => Em C fo ρ m2)
    (hg : sc.names.lookup nm = some .globalImplicit := by rfl) (hdb : (nm == ("__debug__" : Str)) = false := by decide) (he : ∀ env : Env, starEach (e :: es) env = (false, eval e env) :: starEach es env := by intro _; rfl) (hpl : ∀ env : Env, (backTo pos (starEach es env)).any (·.1) = false := by intro _; rfl) :
    WeX X K (.Call (.Name nm p) (e :: es) [] pos) ρ m Q Em := fun π G σ H R hk sk wv tk => by
  obtain ⟨f, fd, ps, ok, hm, kp, bn, _⟩ := C
  refine ⟨tCallS (spX K S) (WE (Wof K π G H Em)) (TaOf X (e :: es)), fun j => ?_, h π G σ H _ hk sk fun vs xs π1 G1 H1 m1 e1 hk1 rvs q => ?_⟩
  · have ok' : FnOk (X j).prog (X j).w (X j).K (X j).mg (X j).base (L2.CX (X j).prog (X j).w) k' f fd ps (spX K S) := by rw [F.cP, F.cW, F.cK, F.cM, F.cB]; exact ok
    exact pe_callS ok' ((F.room j).mono hk') (F.gl hg j) (by rw [F.cM]; exact hm) (by rw [F.cK]; exact kp) (by rw [F.cK]; exact bn) (fun σ => passAt (tk j) σ) (taOf X _ j) hdb (he _) (hpl _)
  · exact ⟨π1, G1, m1, xs, Q, _, hk1, rvs, q, wv.xt e1, fun C d fo π' G' H' m' e' hk' fx nd q' => ⟨C, fo, ρ, π', G', m', rfl, e1.trans e', hk', sk.xt (e1.trans e'), fx, fun dd ed => Classical.byContradiction fun z => e1.al dd z (nd dd ed), q'⟩⟩
theorem ws_retX (h : WeX X K e ρ m D.rt D.ex) : Ws1 X K (.Return (some e) pos) ρ m D := fun π G σ H D' hk sk wd => ⟨_, fun j => ps_ret (teOf X e j), h π G σ H _ hk sk wd.rt wd.ex⟩
theorem ws_exprX (h : WeX X K e ρ m (fun _ m' => D.nx ρ m') D.ex) (hs : ∀ env : Env, swapsWith e none pos.line env = pure false := by intro _; rfl) : Ws1 X K (.Expr e pos) ρ m D := fun π G σ H D' hk sk wd =>
  ⟨_, fun j => ps_expr (teOf X e j) (hs _), h π G σ H _ hk sk (fun v x π' G' H' m' e' hk' _ q => wd.nx σ ρ π' G' H' m' e' hk' (sk.xt e') q) wd.ex⟩
theorem ws_setX (F : Fam X P w K mg base N sc fv k) {p' : Pos} (hN : At N i nm) (h : WeX X K e ρ m (fun x m1 => D.nx (ρ.set i (some x)) m1) D.ex) (hs : ∀ env : Env, swapsWith e (some (.Name nm p')) pos.line env = pure false := by intro _; rfl) (hl : Loc sc nm := by first | exact Or.inl rfl | exact Or.inr rfl)
    (hf : fv nm = true ∨ sc.names.lookup nm = some .local := by first | exact Or.inl rfl | exact Or.inr rfl) : Ws1 X K (.Assign [.Name nm p'] e pos) ρ m D := fun π G σ H D' hk sk wd =>
  ⟨_, fun j => ps_set (i := i) (by rw [F.cN]; exact F.nd) (by rw [F.cN]; exact hN.get) (by rw [F.cS]; exact hl) (teOf X e j) (hs _) (by rw [F.cF, F.cS]; exact hf),
    h π G σ H _ hk sk (fun v x π1 G1 H1 m1 e1 hk1 rv q1 => wd.nx _ _ π1 G1 H1 m1 e1 hk1 ((sk.xt e1).set rv i) q1) wd.ex⟩
/-! ### raise -/
/-- what the text says of an own exception class -/
structure XcO (K : PySem.W.Frag) (mg : Str → Option Value) (x : Str) (C : Addr) : Prop where
  g : mg x = some (.ref C)
  k : PySem.W.keepIn K (.ref C) = true
  b : PySem.W.subIn K (.ref C) (.type "BaseException") = some true
  t : PySem.W.typeIn K (.ref C) = some (.type "type")
theorem ws_raise0 (F : Fam X P w K mg base N sc fv k) {x t : Str} {j : Nat} {C : Addr} {p2 pos2 : Pos} (T : XcO K mg x C) (xP : PySem.W.excIn K C [.type "ValueError", .type "Exception", .type "BaseException", .type "object"] "ValueError.__new__" = true) (q : D.ex C none ρ m)
    (hg : sc.names.lookup x = some .globalImplicit := by rfl) (hdb : (x == ("__debug__" : Str)) = false := by decide) : Ws1 X K (.Raise (some (.Call (.Name x p) [.Constant (.str t) j p2] [] pos)) none pos2) ρ m D := fun π G σ H D' hk sk wd =>
  ⟨_, fun j => ps_raise (F.calm j) (wd.ex j) (pmk_own PySem.F.excBase_ValueError (by rw [F.cK]; exact xP) (by rw [F.cM]; exact T.g) (by rw [F.cK]; exact T.k) (raises_own (by rw [F.cK]; exact T.b) (by rw [F.cK]; exact T.t)) (F.gl hg j) hdb),
    C, none, ρ, π, G, m, rfl, Xt.refl, hk, sk, trivial, (fun _ z => nomatch z), q⟩
/-! an own class with an __init__ that calls its base's and stores its arguments -/
/-- NetError.__init__(self, ..) -/
theorem pe_ninit {X : Cx} {e : Expr} {es : List Expr} {ta : TA} {x : Str} {B : Addr} {p1 p2 pos : Pos} {pl : Sem Bool} (hg : Gl X x) (hm : X.mg x = some (.ref B)) (ga : PySem.W.specialIn X.K (.ref B) "__getattribute__" = some (some (.builtin "type.__getattribute__")))
    (rd : PySem.W.readsIn X.K B (.type "type") = true) (vV : PySem.W.findCls X.K (.ref B) (.type "type") "__init__" = some (.val (.builtin "ValueError.__init__"))) (ha : PA X (e :: es) ta)
    (hdb : (x == ("__debug__" : Str)) = false := by decide)
    (hc : eval (.Call (.Attribute (.Name x p1) "__init__" p2) (e :: es) [] pos) X.env = (do
      let ov ← eval (.Name x p1) X.env
      standAt p2.atName
      let (f, first) ← holding [ov] (getMethod ov "__init__" pl)
      callWith pos f first (backTo pos (starEach (e :: es) X.env)) (backToKw pos (keywordEach [] X.env))) := by rfl)
    (he : starEach (e :: es) X.env = (false, eval e X.env) :: starEach es X.env := by rfl) (hpl : (backTo pos (starEach es X.env)).any (·.1) = false := by rfl) :
    PE X (.Call (.Attribute (.Name x p1) "__init__" p2) (e :: es) [] pos) (tVeI X.K ta) := by
  refine ⟨fun pins s σ H Q I h => ?_⟩
  refine PySem.W.methodCall_KW (ld_glob I hg hm ?_ hdb) hc
  refine PySem.W.method_cls I.kIn ga (PySem.W.cls_value I.kIn rd vV (by decide +kernel) ?_)
  show wpAny _ _ (callWith pos (Value.builtin "ValueError.__init__") [] (backTo pos (starEach (e :: es) X.env)) []) _ _ _
  refine PyProof.Rows.callWith_method1 (thn (ha.run pos pins _ σ H _ (I.tok _) h) fun us s1 ⟨vs, H1, I1, r1, a, C, ws, ev, hl, T, ea, q⟩ => ?_) he hpl
  subst ev
  cases r1 with
  | @cons _ u0 _ ur ra rw' =>
    obtain rfl : u0 = Value.ref a := ra
    have hlen : ur.length ≤ sizeLine := by
      rw [← Paired.length rw', sizeLine_eq]
      omega
    exact oinit_ok T I1 ea hlen fun s' J => ⟨.non, H1, J, rfl, q⟩
/-- what the text says of the class B whose __init__ is called by name -/
structure XcB (K : PySem.W.Frag) (mg : Str → Option Value) (x : Str) (B : Addr) : Prop where
  g : mg x = some (.ref B)
  ga : PySem.W.specialIn K (.ref B) "__getattribute__" = some (some (.builtin "type.__getattribute__"))
  rd : PySem.W.readsIn K B (.type "type") = true
  v : PySem.W.findCls K (.ref B) (.type "type") "__init__" = some (.val (.builtin "ValueError.__init__"))
def spI (K : PySem.W.Frag) (C : Addr) (fs : List Str) : Sp := fun vs H Q _ => ∃ (a : Addr) (us : List V), vs = .ref a :: us ∧ us.length = fs.length ∧ H a = some (exo a C none) ∧
  ∀ d, H d = none → d ≠ a → Q .non (upd (upd H d (exd d (fs.zip us).reverse)) a (exo a C (some d)))
theorem upd_comm {H : Hp} {a b : Addr} {o u : HO} (h : a ≠ b) : upd (upd H a o) b u = upd (upd H b u) a o := by
  funext c
  unfold upd
  by_cases e1 : c = b
  · by_cases e2 : c = a
    · exact absurd (e2.symm.trans e1) h
    · rw [if_pos e1, if_neg e2, if_pos e1]
  · by_cases e2 : c = a
    · rw [if_neg e1, if_pos e2, if_pos e2]
    · rw [if_neg e1, if_neg e2, if_neg e2, if_neg e1]
theorem ok_init1 {f : Addr} {fd : FuncData} {st : Stmt} {qual g h x t : Str} {C B : Addr} {j : Nat} {p1 p2 p3 p4 p5 p6 p7 p8 p9 p10 : Pos} (F : Fun K "__init__" qual st f fd) (S : FnScope ["self", g] ["self", g] (defScope st)) (T : OexC K C) (TB : XcB K mg x B) (hno : PySem.W.findIn K (.ref C) h = some none)
    (hb : defBody st = [.Expr (.Call (.Attribute (.Name x p1) "__init__" p2) [.Name "self" p3, .Constant (.str t) j p4] [] p5) p6, .Assign [.Attribute (.Name "self" p7) h p8] (.Name g p9) p10])
    (hg : (defScope st).names.lookup x = some .globalImplicit) (hl1 : (defScope st).names.lookup ("self" : Str) = some .local) (hl2 : (defScope st).names.lookup g = some .local)
    {pl : Env → Sem Bool} (hc : ∀ env : Env, eval (.Call (.Attribute (.Name x p1) "__init__" p2) [.Name "self" p3, .Constant (.str t) j p4] [] p5) env = (do
      let ov ← eval (.Name x p1) env
      standAt p2.atName
      let (f, first) ← holding [ov] (getMethod ov "__init__" (pl env))
      callWith p5 f first (backTo p5 (starEach [.Name "self" p3, .Constant (.str t) j p4] env)) (backToKw p5 (keywordEach [] env))))
    (hs : ∀ env : Env, swapsWith (.Name g p9) (some (.Attribute (.Name "self" p7) h p8)) p10.line env = pure false)
    (hdb : (x == ("__debug__" : Str)) = false := by decide) (hdg : (g == ("__debug__" : Str)) = false := by decide) (hcg : (g == ("__classdict__" : Str)) = false := by decide) : FnOk P w K mg base CX0 1 f fd ["self", g] (spI K C [h]) := by
  refine F.ok S (fun vs H Q E ⟨a, us, ev, hl, _⟩ => by subst ev; show us.length + 1 = 2; rw [hl]; rfl) (fun cdv A outer s H vs Q E hr ⟨a, us, ev, hl, ea, q⟩ => ?_)
  subst ev
  obtain ⟨u, rfl⟩ : ∃ u, us = [u] := by
    match us, hl with
    | [u], _ => exact ⟨u, rfl⟩
  rw [hb]
  refine ⟨_, pss_cons (ps_expr (pe_ninit (X := (cxOf CX0 P w K mg base ["self", g] qual (defScope st) f cdv A outer s H E).nox) (show Gl _ x from hg) TB.g TB.ga TB.rd TB.v (pa_cons (pv (X := (cxOf CX0 P w K mg base ["self", g] qual (defScope st) f cdv A outer s H E).nox) 0 rfl (.inl hl1) rfl rfl) (pa_cons pe_str pa_nil)) hdb (hc _)) (by first | rfl | skip))
    (pss_one (ps_ost (pv 0 rfl (.inl hl1) rfl rfl) (pv 1 rfl (.inl hl2) hdg hcg) (hs _))), ?_⟩
  refine ⟨_, rfl, a, C, _, rfl, (show 1 ≤ 1000 by decide), T, ea, ?_⟩
  refine ⟨_, rfl, _, rfl, a, C, rfl, T, hno, .inl ⟨ea, fun dx hx ne => ?_⟩⟩
  exact q dx hx ne
end
end Wn
set_option Elab.async false
set_option linter.all false
set_option maxRecDepth 100000
set_option maxHeartbeats 2000000
set_option autoImplicit false
namespace Wn
open PySem L2 PyProof.Rows
section
variable {ι : Type} {X : ι → Cx} {P : Program} {w : World} {K : PySem.W.Frag} {mg : Str → Option Value} {base : Heap} {N : List Str} {sc : Scope} {fv : Str → Bool} {k : Nat} {ρ : Ro} {m : Mm} {Q : QV} {D : Ed} {a b c e tg it elt : Expr} {pos p : Pos} {x y z : MV} {nm : Str} {i : Nat}
variable {π π1 : List Addr} {G H G1 H1 : Hp}
/-! ### raise of a class with its own __init__ -/
def Cei (P : Program) (w : World) (K : PySem.W.Frag) (mg : Str → Option Value) (base : Heap) (x : Str) (C : Addr) (fs : List Str) : Prop :=
  ∃ fI fd ps, FnOk P w K mg base CX0 1 fI fd ps (spI K C fs) ∧ OexC K C ∧ PySem.W.findIn K (.ref C) "__init__" = some (some (.ref fI)) ∧ PySem.W.typeIn K (.ref fI) = some (.type "function") ∧ Binds K fd ps [] ∧ mg x = some (.ref C)
theorem zip_rf {fs : List Str} : ∀ {vs : List V} {xs : List MV}, Rvs K G π vs xs → Paired (Rf K G π) (fs.zip vs) (fs.zip xs) := by
  induction fs with
  | nil => intro vs xs _; exact .nil
  | cons f fs ih =>
    intro vs xs h
    cases h with
    | nil => exact .nil
    | cons r t => exact .cons ⟨rfl, r⟩ (ih t)
theorem paired_app {α β : Type} {F : α → β → Prop} : ∀ {as as' : List α} {bs bs' : List β}, Paired F as bs → Paired F as' bs' → Paired F (as ++ as') (bs ++ bs')
  | _, _, _, _, .nil, h => h
  | _, _, _, _, .cons r t, h => .cons r (paired_app t h)
theorem paired_rev {α β : Type} {F : α → β → Prop} : ∀ {as : List α} {bs : List β}, Paired F as bs → Paired F as.reverse bs.reverse
  | _, _, .nil => .nil
  | _, _, .cons r t => by
    rw [List.reverse_cons, List.reverse_cons]
    exact paired_app (paired_rev t) (.cons r .nil)
theorem ws_raiseI (F : Fam X P w K mg base N sc fv k) {x : Str} {C : Addr} {fs : List Str} {es : List Expr} {pos2 : Pos} (M : Cei P w K mg base x C fs) (hk : 2 ≤ k) (hfs : fs.length ≤ 1000) (h : Wr X K (e :: es) ρ m fun xs m1 => xs.length = fs.length ∧ D.ex C (some (fs.zip xs).reverse) ρ m1)
    (hg : sc.names.lookup x = some .globalImplicit := by rfl) (hdb : (x == ("__debug__" : Str)) = false := by decide) (he : ∀ env : Env, starEach (e :: es) env = (false, eval e env) :: starEach es env := by intro _; rfl) (hpl : ∀ env : Env, (backTo pos (starEach es env)).any (·.1) = false := by intro _; rfl) :
    Ws1 X K (.Raise (some (.Call (.Name x p) (e :: es) [] pos)) none pos2) ρ m D := fun π G σ H D' hk0 sk wd => by
  obtain ⟨fI, fd, ps, ok, T, iC, tI, hb, hm⟩ := M
  refine ⟨_, fun j => ps_raise (F.calm j) (wd.ex j) (pmk_oex (C := C) (fI := fI) (k := 1) (fd := fd) (ps := ps) (CX := CX0) (sp := spI K C fs) (ds := []) (dvs := []) (ta := TaOf X (e :: es)) (by rw [F.cK]; exact T) (by rw [F.cK]; exact iC) (by rw [F.cK]; exact tI) (by rw [F.cP, F.cW, F.cK, F.cM, F.cB]; exact ok) ((F.room j).mono hk) (by rw [F.cK]; exact hb) .nil (fun _ _ _ _ _ _ _ z => z.elim) (F.gl hg j) (by rw [F.cM]; exact hm) (taOf X _ j) hdb (he _) (hpl _)), ?_⟩
  refine h π G σ H _ hk0 sk fun vs xs π1 G1 H1 m1 e1 hk1 rvs ⟨hl, q⟩ => ?_
  have lv := Paired.length rvs
  refine ⟨by rw [lv, hl]; exact hfs, fun a na => ⟨a, vs, by rw [List.append_nil], by rw [lv, hl], upd_same, fun d nd ne => ?_⟩⟩
  have nd1 : H1 d = none := by rw [upd_ne ne] at nd; exact nd
  refine ⟨rfl, d, _, upd_same, by rw [upd_ne ne]; exact upd_same, nd1, ?_⟩
  have eh : upd (del (upd (upd (upd H1 a (exo a C none)) d (exd d (fs.zip vs).reverse)) a (exo a C (some d))) a) d (.xd (fs.zip vs).reverse) = upd H1 d (.xd (fs.zip vs).reverse) := by
    funext c
    by_cases ed : c = d
    · subst ed; rw [upd_same, upd_same]
    · rw [upd_ne ed, upd_ne ed]
      by_cases ea : c = a
      · subst ea; rw [del_same, na]
      · rw [del_ne ea, upd_ne ea, upd_ne ed, upd_ne ea]
  rw [eh]
  have hd0 : H d = none := Classical.byContradiction fun z => e1.al d z nd1
  have e2 : Xt π G H π1 G1 (upd H1 d (.xd (fs.zip vs).reverse)) := e1.other hd0
  exact ⟨C, some (fs.zip xs).reverse, ρ, π1, G1, m1, rfl, e2, hk1.grow (same_new nd1), sk.xt e2, ⟨_, upd_same, paired_rev (zip_rf rvs), hk1.nin nd1, hk1.sub.free nd1⟩, fun dd ed => by cases ed; exact hd0, q⟩
/-! ### contexts that need not be calm, the suite of an except clause -/
structure Fam0 (X : ι → Cx) (P : Program) (w : World) (K : PySem.W.Frag) (mg : Str → Option Value) (base : Heap) (N : List Str) (sc : Scope) (fv : Str → Bool) (k : Nat) : Prop where
  nd : N.Nodup
  cP : ∀ j, (X j).prog = P
  cW : ∀ j, (X j).w = w
  cK : ∀ j, (X j).K = K
  cM : ∀ j, (X j).mg = mg
  cB : ∀ j, (X j).base = base
  cN : ∀ j, (X j).N = N
  cS : ∀ j, (X j).env.scope = sc
  hu : ∀ j, (X j).A.units + 1 < cLine
  cF : ∀ j, (X j).fn = fv
/-- the suite holds the exception at a, of the class at C, with the dict at d -/
def SuF (X : ι → Cx) (a C : Addr) (d : Option Addr) : Prop := ∀ j, ∃ (Y : Cx) (oe : Obj) (pn : List (Addr × Obj)), X j = Y.suite a ((a, oe) :: pn) ∧ Zc (.ref C) d oe ∧ ∃ vs, oe.data = .fields vs
theorem Fam0.gl (F : Fam0 X P w K mg base N sc fv k) {nm : Str} (h : sc.names.lookup nm = some .globalImplicit) (j : ι) : Gl (X j) nm := by
  show (X j).env.scope.names.lookup nm = _
  rw [F.cS]; exact h
theorem we_var0 (F : Fam0 X P w K mg base N sc fv k) (hN : At N i nm) (hr : ρ[i]? = some (some x)) (q : Q x m) (hv : Vis sc nm := by first | exact Or.inl rfl | exact Or.inr (Or.inl rfl) | exact Or.inr (Or.inr rfl))
    (hd : (nm == ("__debug__" : Str)) = false := by decide) (hcd : (nm == ("__classdict__" : Str)) = false := by decide) : We X K (.Name nm pos) ρ m Q := fun π G σ H R hk sk wv =>
  ⟨_, fun j => pe_var (i := i) (by rw [F.cN]; exact hN.get) (by rw [F.cS]; exact hv) hd hcd, let ⟨v, q1, q2⟩ := sk.get i x hr; ⟨v, q1, wv v x π G H m Xt.refl hk q2 q⟩⟩
theorem we_cls0 (F : Fam0 X P w K mg base N sc fv k) {B : Addr} (hm : mg nm = some (.ref B)) (q : Q (.x B) m) (hg : sc.names.lookup nm = some .globalImplicit := by rfl) (hd : (nm == ("__debug__" : Str)) = false := by decide) : We X K (.Name nm pos) ρ m Q := fun π G σ H R hk sk wv =>
  ⟨_, fun j => pe_glob (v := .ref B) (F.gl hg j) (by rw [F.cM]; exact hm) rfl hd, wv (.ref B) (.x B) π G H m Xt.refl hk rfl q⟩
theorem we_cls (F : Fam X P w K mg base N sc fv k) {B : Addr} (hm : mg nm = some (.ref B)) (q : Q (.x B) m) (hg : sc.names.lookup nm = some .globalImplicit := by rfl) (hd : (nm == ("__debug__" : Str)) = false := by decide) : We X K (.Name nm pos) ρ m Q := fun π G σ H R hk sk wv =>
  ⟨_, fun j => pe_glob (v := .ref B) (F.gl hg j) (by rw [F.cM]; exact hm) rfl hd, wv (.ref B) (.x B) π G H m Xt.refl hk rfl q⟩
theorem we_ty0 (F : Fam0 X P w K mg base N sc fv k) {T : String} (hm : mg nm = none) (hv : bootBuiltins nm = some (.type T)) (q : Q (.t T) m) (hg : sc.names.lookup nm = some .globalImplicit := by rfl) (hn : nm ≠ "__name__" := by decide) (hd : (nm == ("__debug__" : Str)) = false := by decide) : We X K (.Name nm pos) ρ m Q := fun π G σ H R hk sk wv =>
  ⟨_, fun j => pe_bltn (v := .ty T) (F.gl hg j) (by rw [F.cM]; exact hm) hv rfl hn hd, wv (.ty T) (.t T) π G H m Xt.refl hk rfl q⟩
theorem we_callB0 (F : Fam0 X P w K mg base N sc fv k) {nm : Str} {id : String} {es : List Expr} (h : Wr X K (e :: es) ρ m fun xs m1 => CaW X K (.builtin id) xs m1 Q) (hm : mg nm = none) (hv : bootBuiltins nm = some (.builtin id)) (hg : sc.names.lookup nm = some .globalImplicit := by rfl)
    (hn : nm ≠ "__name__" := by decide) (hdb : (nm == ("__debug__" : Str)) = false := by decide) (he : ∀ env : Env, starEach (e :: es) env = (false, eval e env) :: starEach es env := by intro _; rfl) (hpl : ∀ env : Env, (backTo pos (starEach es env)).any (·.1) = false := by intro _; rfl) :
    We X K (.Call (.Name nm p) (e :: es) [] pos) ρ m Q := fun π G σ H R hk sk wv =>
  ⟨_, fun j => pe_callB (caOf X (.builtin id) j) (F.gl hg j) (by rw [F.cM]; exact hm) hv (taOf X _ j) hn hdb (he _) (hpl _), h π G σ H _ hk sk fun vs xs π1 G1 H1 m1 e1 hk1 rvs q => q π1 G1 H1 R vs hk1 rvs (wv.xt e1)⟩
theorem we_callT0 (F : Fam0 X P w K mg base N sc fv k) {nm : Str} {id : String} {es : List Expr} (h : Wr X K (e :: es) ρ m fun xs m1 => CaW X K (.type id) xs m1 Q) (hm : mg nm = none) (hv : bootBuiltins nm = some (.type id)) (hg : sc.names.lookup nm = some .globalImplicit := by rfl)
    (hn : nm ≠ "__name__" := by decide) (hdb : (nm == ("__debug__" : Str)) = false := by decide) (he : ∀ env : Env, starEach (e :: es) env = (false, eval e env) :: starEach es env := by intro _; rfl) (hpl : ∀ env : Env, (backTo pos (starEach es env)).any (·.1) = false := by intro _; rfl) :
    We X K (.Call (.Name nm p) (e :: es) [] pos) ρ m Q := fun π G σ H R hk sk wv =>
  ⟨_, fun j => pe_callTy (caOf X (.type id) j) (F.gl hg j) (by rw [F.cM]; exact hm) hv (taOf X _ j) hn hdb (he _) (hpl _), h π G σ H _ hk sk fun vs xs π1 G1 H1 m1 e1 hk1 rvs q => q π1 G1 H1 R vs hk1 rvs (wv.xt e1)⟩
/-! isinstance(e, T), isinstance(e, (T1, T2)) -/
def DxH (H : Hp) (d : Option Addr) : Prop := ∀ dd, d = some dd → ∃ fs, H dd = some (.xd fs)
def rIsX (C a : Addr) (d : Option Addr) (K : PySem.W.Frag) : List V → Hp → VK → Prop := fun xs H Q => ∃ (c : V) (cv : Value) (b : Bool), xs = [.ref a, c] ∧ ClsV c cv ∧ DxH H d ∧ PySem.W.kitOne K (.ref C) cv = some b ∧ Q (.bl b) H
def rIsXT (C a : Addr) (d : Option Addr) (K : PySem.W.Frag) : List V → Hp → VK → Prop := fun xs H Q => ∃ (tp : Addr) (cs : List V) (us : List Value) (b : Bool), xs = [.ref a, .ref tp] ∧ H tp = some (.tup cs) ∧ Paired ClsV cs us ∧ DxH H d ∧ PySem.W.kitAny K (.ref C) us = some b ∧ Q (.bl b) H
theorem inst_x {Y : Cx} {a C : Addr} {d : Option Addr} {oe : Obj} {pn pins : List (Addr × Obj)} {σ : L2.St} {s : Shared} (I : Inv (Y.suite a ((a, oe) :: pn)) pins σ H s) (hz : Zc (.ref C) d oe) (hf : ∃ vs, oe.data = .fields vs) (hx : DxH H d) : ∃ od, PySem.W.InstAt s.heap a oe C od := by
  obtain ⟨ha, _⟩ := I.pin (a, oe) (List.mem_append_left _ List.mem_cons_self)
  obtain ⟨vs, hd⟩ := hf
  have nc : PySem.W.notCls oe = true := by unfold PySem.W.notCls; rw [hd] <;> rfl
  cases d with
  | none => exact ⟨none, ha, hz.1, nc, by rw [hz.2]; trivial⟩
  | some dd =>
    obtain ⟨fs, e⟩ := hx dd rfl
    obtain ⟨mA, hns, _⟩ := (show ObjOk Y.prog Y.w H s.heap dd (.xd fs) from I.hok dd _ e)
    obtain ⟨od, ho, _⟩ := lookIn_ns hns
    exact ⟨some od, ha, hz.1, nc, by rw [hz.2]; exact ho⟩
theorem cr_isX {Y : Cx} {a C : Addr} {d : Option Addr} {oe : Obj} {pn : List (Addr × Obj)} (T : ExcC Y.K C) (hz : Zc (.ref C) d oe) (hf : ∃ vs, oe.data = .fields vs) : CallR (Y.suite a ((a, oe) :: pn)) (.builtin "isinstance") (rIsX C a d Y.K) := by
  intro pins s σ H xs us Q I r h
  obtain ⟨c, cv, b, rfl, kc, hx, e, q⟩ := h
  obtain ⟨u1, u2, rfl, r1, r2⟩ := vals2 r
  have e2 := kc.eq r2
  subst e2
  obtain rfl : u1 = Value.ref a := r1
  obtain ⟨od, J⟩ := inst_x I hz hf hx
  obtain ⟨cd, hc, _⟩ := PySem.W.any_some T.hd
  exact PySem.W.kia_one (PySem.W.kitx_exc (by rw [hc]; rfl) T.hg T.hk T.hs T.ha T.hn T.ht T.hm) I.kIn J e (fun z => nomatch z) fun tk => ⟨.bl b, H, I.tok tk, rfl, q⟩
theorem cr_isXT {Y : Cx} {a C : Addr} {d : Option Addr} {oe : Obj} {pn : List (Addr × Obj)} (T : ExcC Y.K C) (hz : Zc (.ref C) d oe) (hf : ∃ vs, oe.data = .fields vs) : CallR (Y.suite a ((a, oe) :: pn)) (.builtin "isinstance") (rIsXT C a d Y.K) := by
  intro pins s σ H xs us Q I r h
  obtain ⟨tp, cs, ws, b, rfl, hT, kc, hx, e, q⟩ := h
  obtain ⟨u1, u2, rfl, r1, r2⟩ := vals2 r
  cases (show u2 = Value.ref tp from r2)
  obtain rfl : u1 = Value.ref a := r1
  obtain ⟨od, J⟩ := inst_x I hz hf hx
  obtain ⟨cd, hc, _⟩ := PySem.W.any_some T.hd
  obtain ⟨_, its, rv, o, h1, h2, n, h3⟩ := (show ObjOk Y.prog Y.w H s.heap tp (.tup cs) from I.hok tp _ hT)
  have e3 := ClsV.all kc rv
  subst e3
  obtain ⟨oc, od', dt, sl⟩ := o
  simp only at h2 h3
  subst h2 h3
  exact PySem.W.kia_tup (PySem.W.kitx_exc (by rw [hc]; rfl) T.hg T.hk T.hs T.ha T.hn T.ht T.hm) I.kIn J h1 e (fun z => nomatch z) fun tk => ⟨.bl b, H, I.tok tk, rfl, q⟩
/-- x is the exception that the suite holds -/
def Eh (a : Addr) (d : Option Addr) (m : Mm) (x : MV) : Prop := (d = none ∧ x = .x a) ∨ ∃ dd i gs, d = some dd ∧ x = .e a dd i ∧ m[i]? = some (.xdo gs)
theorem eh_real {a : Addr} {d : Option Addr} {v : V} (hk : Hk K π G H m) (rv : Rv K G π v x) (h : Eh a d m x) : v = .ref a ∧ DxH H d := by
  rcases h with ⟨rfl, rfl⟩ | ⟨dd, i, gs, rfl, rfl, hi⟩
  · exact ⟨rv, fun _ z => nomatch z⟩
  · obtain ⟨rfl, hp⟩ := rv
    obtain ⟨a', u, h1, h2, fs, eu, _⟩ := hk.obj i _ hi
    rw [hp] at h1; cases h1
    subst eu
    exact ⟨rfl, fun d' z => by cases z; exact ⟨fs, h2⟩⟩
/-- a value that names a class -/
def IsCl : MV → Value → Prop
  | .x B, u => u = .ref B
  | .t n, u => u = .type n
  | _, _ => False
theorem isCl_real {v : V} {u : Value} (rv : Rv K G π v x) (h : IsCl x u) : ClsV v u := by
  cases x with
  | x B => obtain rfl := rv; obtain rfl := h; exact .own B
  | t n => obtain rfl := rv; obtain rfl := h; exact .ty n
  | _ => exact h.elim
theorem c_isX (F : Fam0 X P w K mg base N sc fv k) {A C : Addr} {d : Option Addr} {cv : Value} {bb : Bool} (S : SuF X A C d) (T : ExcC K C) (hx : Eh A d m x) (hy : IsCl y cv) (hb : PySem.W.kitOne K (.ref C) cv = some bb) (q : Q (.d (.bool bb)) m) : CaW X K (.builtin "isinstance") [x, y] m Q := fun π G H R vs hk rs wv => by
  obtain ⟨v1, v2, rfl, r1, r2⟩ := rvs2 rs
  obtain ⟨rfl, dx⟩ := eh_real hk r1 hx
  refine ⟨rIsX C A d K, fun j => ?_, v2, cv, bb, rfl, isCl_real r2 hy, dx, hb, wv _ (.d (.bool bb)) π G H m Xt.refl hk (Da.bl bb) q⟩
  obtain ⟨Y, oe, pn, ej, hz, hf⟩ := S j
  have eK : Y.K = K := by have := F.cK j; rw [ej] at this; exact this
  rw [ej, ← eK]
  exact cr_isX (by rw [eK]; exact T) hz hf
theorem b_isX (F : Fam0 X P w K mg base N sc fv k) {A C : Addr} {d : Option Addr} {cv : Value} {bb : Bool} {T' : Expr} (S : SuF X A C d) (T : ExcC K C) (hmi : mg "isinstance" = none) (hb : PySem.W.kitOne K (.ref C) cv = some bb)
    (h : We X K e ρ m fun x m1 => Eh A d m1 x ∧ We X K T' ρ m1 fun y m2 => m2 = m1 ∧ IsCl y cv ∧ Q (.d (.bool bb)) m1) (hg : sc.names.lookup ("isinstance" : Str) = some .globalImplicit := by rfl)
    (he : ∀ env : Env, starEach [e, T'] env = (false, eval e env) :: starEach [T'] env := by intro _; rfl) (hpl : ∀ env : Env, (backTo pos (starEach [T'] env)).any (·.1) = false := by intro _; rfl) (he2 : ∀ env : Env, starEach [T'] env = (false, eval T' env) :: starEach [] env := by intro _; rfl) :
    We X K (.Call (.Name "isinstance" p) [e, T'] [] pos) ρ m Q := we_callB0 F (wr_cons (h.mono fun x m1 ⟨hx, h1⟩ => wr_cons (h1.mono fun y m2 ⟨e2, hy, q⟩ => wr_nil (by subst e2; exact c_isX F S T hx hy hb q)) he2) he) hmi bo_isi hg (by decide) (by decide) he hpl
theorem tup_cls {A : Addr} {vs : List V} {xs : List MV} {us : List Value} (rs : Rvs K G π vs xs) (h : Paired IsCl xs us) : Paired ClsV vs us := by
  induction rs generalizing us with
  | nil => cases h; exact .nil
  | cons r t ih =>
    cases h with
    | cons h1 h2 => exact .cons (isCl_real r h1) (ih h2)
theorem b_isXT (F : Fam0 X P w K mg base N sc fv k) {A C : Addr} {d : Option Addr} {us : List Value} {bb : Bool} {es : List Expr} {n2 : Nat} {p2 : Pos} (S : SuF X A C d) (T : ExcC K C) (hmi : mg "isinstance" = none) (hb : PySem.W.kitAny K (.ref C) us = some bb) (hl : us.length ≤ 1000)
    (h : We X K e ρ m fun x m1 => Eh A d m1 x ∧ Wr X K es ρ m1 fun ys m2 => m2 = m1 ∧ Paired IsCl ys us ∧ Q (.d (.bool bb)) m1) (hg : sc.names.lookup ("isinstance" : Str) = some .globalImplicit := by rfl)
    (he : ∀ env : Env, starEach [e, .Tuple es n2 p2] env = (false, eval e env) :: starEach [.Tuple es n2 p2] env := by intro _; rfl) (hpl : ∀ env : Env, (backTo pos (starEach [.Tuple es n2 p2] env)).any (·.1) = false := by intro _; rfl) (he2 : ∀ env : Env, starEach [.Tuple es n2 p2] env = (false, eval (.Tuple es n2 p2) env) :: starEach [] env := by intro _; rfl) :
    We X K (.Call (.Name "isinstance" p) [e, .Tuple es n2 p2] [] pos) ρ m Q := fun π G σ H R hk sk wv => by
  refine ⟨_, fun j => pe_callB (r := rIsXT C A d K) ?_ (F.gl hg j) (by rw [F.cM]; exact hmi) bo_isi (pa_cons (teOf X e j) (pa_cons (pe_tup (taOf X es j)) pa_nil (he2 _)) (he _)) (by decide) (by decide) (he _) (hpl _), ?_⟩
  · obtain ⟨Y, oe, pn, ej, hz, hf⟩ := S j
    have eK : Y.K = K := by have := F.cK j; rw [ej] at this; exact this
    rw [ej, ← eK]
    exact cr_isXT (by rw [eK]; exact T) hz hf
  · refine h π G σ H _ hk sk fun v x π1 G1 H1 m1 e1 hk1 rv ⟨hx, h1⟩ => h1 π1 G1 σ H1 _ hk1 (sk.xt e1) fun vs ys π2 G2 H2 m2 e2 hk2 rs ⟨em, hy, q⟩ => ?_
    subst em
    have lv : vs.length = us.length := (Paired.length rs).trans (Paired.length hy)
    refine ⟨by rw [lv]; exact Nat.le_trans hl (by decide), fun tp np => ?_⟩
    obtain ⟨rfl, dx⟩ := eh_real hk2 (rv.xt e2) hx
    have nt : ∀ dd fs, H2 dd = some (.xd fs) → upd H2 tp (.tup vs) dd = some (.xd fs) := fun dd fs z => by rw [upd_ne (ne_of_none z np)]; exact z
    refine ⟨tp, vs, us, bb, rfl, upd_same, tup_cls (A := A) rs hy, fun dd z => let ⟨fs, z2⟩ := dx dd z; ⟨fs, nt dd fs z2⟩, hb, ?_⟩
    exact wv _ (.d (.bool bb)) π2 G2 _ _ ((e1.trans e2).trans (Xt.other Xt.refl np)) (hk2.grow (same_new np)) (Da.bl bb) q
/-- e.f -/
theorem we_efld (F : Fam0 X P w K mg base N sc fv k) {A C : Addr} {d : Option Addr} {f : Str} (S : SuF X A C d) (T : XfC K C) (hno : PySem.W.findIn K (.ref C) f = some none)
    (h : We X K a ρ m fun x m1 => ∃ dd i gs y, d = some dd ∧ x = .e A dd i ∧ m1[i]? = some (.xdo gs) ∧ gs.lookup f = some y ∧ Q y m1) (hb : ∀ env : Env, attributeBase a f env (eval a env) = eval a env := by intro _; rfl) : We X K (.Attribute a f pos) ρ m Q := fun π G σ H R hk sk wv => by
  refine ⟨tXf A (.ref C) d C f (TeOf X a), fun j => ?_, ?_⟩
  · obtain ⟨Y, oe, pn, ej, hz, hf⟩ := S j
    have eK : Y.K = K := by have := F.cK j; rw [ej] at this; exact this
    have te := teOf X a j
    rw [ej] at te ⊢
    exact pe_xf (by rw [eK]; exact T) (by rw [eK]; exact hno) hz hf te (hb _)
  · refine h π G σ H _ hk sk fun v x π1 G1 H1 m1 e1 hk1 rv ⟨dd, i, gs, y, ed, ex, hi, hl, q⟩ => ?_
    subst ed ex
    obtain ⟨rfl, hp⟩ := rv
    obtain ⟨a', u, h1, h2, fs, eu, rf⟩ := hk1.obj i _ hi
    rw [hp] at h1; cases h1
    subst eu
    obtain ⟨v', hv, rv'⟩ := (fields_lookup rf).2 y hl
    exact ⟨rfl, rfl, dd, fs, v', rfl, h2, hv, wv v' y π1 G1 H1 m1 e1 hk1 rv' q⟩
/-! ### try: body, except x as n: suite -/
def suD (i : Nat) (D : Ed) : Ed := { nx := fun ρ m => D.nx (ρ.set i none) m, rt := D.rt, bk := fun ρ m => D.bk (ρ.set i none) m, ct := fun ρ m => D.ct (ρ.set i none) m }
def Sui (P : Program) (w : World) (K : PySem.W.Frag) (mg : Str → Option Value) (base : Heap) (N : List Str) (sc : Scope) (fv : Str → Bool) (k : Nat) (C : Addr) (fo : Xf) (i : Nat) (ss : List Stmt) (ρ' : Ro) (m' : Mm) (D : Ed) : Prop :=
  ∀ (ι : Type) (Y : ι → Cx) (a : Addr) (d : Option Addr), Fam0 Y P w K mg base N sc fv k → SuF Y a C d →
    match fo with
    | none => d = none → Ws Y K ss (ρ'.set i (some (.x a))) m' (suD i D)
    | some gs => ∀ dd, d = some dd → Ws Y K ss (ρ'.set i (some (.e a dd m'.length))) (m' ++ [.xdo gs]) (suD i D)
def trD (P : Program) (w : World) (K : PySem.W.Frag) (mg : Str → Option Value) (base : Heap) (N : List Str) (sc : Scope) (fv : Str → Bool) (k : Nat) (cv : Value) (i : Nat) (ss : List Stmt) (D : Ed) : Ed :=
  { D with ex := fun C fo ρ' m' => ∃ b, PySem.W.exmOne K (.ref C) cv = some b ∧ (if b = true then Sui P w K mg base N sc fv k C fo i ss ρ' m' D else D.ex C fo ρ' m') }
abbrev Ytr (X : ι → Cx) (W : WX) : {q : ι × List (Addr × Obj) × (Value → Shared → Prop) // Takes ((X q.1).tr q.2.1 q.2.2) W ∧ PassesOwn (model (X q.1).prog (X q.1).w) (X q.1).A (X q.1).env q.2.2} → Cx := fun q => (X q.1.1).tr q.1.2.1 q.1.2.2
abbrev Ysu (X : ι → Cx) (a : Addr) (cls : Value) (d : Option Addr) : {q : ι × Obj × List (Addr × Obj) // Zc cls d q.2.1 ∧ ∃ vs, q.2.1.data = .fields vs} → Cx := fun q => (X q.1.1).suite a ((a, q.1.2.1) :: q.1.2.2)
theorem ws_tryAs (F : Fam X P w K mg base N sc fv k) (i : Nat) {x n : Str} {cv : Value} {body suite : List Stmt} {b₀ : Stmt} {np pos' : Pos} (hs : ∀ j, (X j).stack = (X j).env :: (X j).outer) (hf : ∀ j, (X j).env.frame = some (X j).env.locals)
    (hc : mg x = some cv ∨ (mg x = none ∧ bootBuiltins x = some cv ∧ x ≠ "__name__"))
    (hb : ∀ {ι' : Type} (X' : ι' → Cx), Fam X' P w K mg base N sc fv k → Ws X' K body ρ m (trD P w K mg base N sc fv k cv i (b₀ :: suite) D))
    (hi : N[i]? = some n := by rfl) (hln : sc.names.lookup n = some .local := by rfl) (hg : sc.names.lookup x = some .globalImplicit := by rfl) (hdb : (x == ("__debug__" : Str)) = false := by decide) :
    Ws1 X K (.Try body [.ExceptHandler (some (.Name x np)) (some n) (b₀ :: suite) pos'] [] [] pos) ρ m D := fun π G σ H D' hk sk wd => by
  let ts : Addr → Value → Option Addr → TS := fun a cls d => TssOf (Ysu X a cls d) (b₀ :: suite)
  have hNm : ∀ j, Names (X j) x cv := fun j => ⟨F.gl hg j, hdb, by rw [F.cM]; exact hc⟩
  refine ⟨fun D0 σ H1 => TssOf (Ytr X (wAs K cv i ts (Wof K π G H D.ex) D0)) body D0 σ H1, fun j => ?_, ?_⟩
  · have := ps_try_as (X := X j) (x := x) (n := n) (c := cv) (i := i) (body := body) (suite := suite) (b₀ := b₀) (np := np) (pos := pos) (pos' := pos') (tb := fun W => TssOf (Ytr X W) body) (ts := ts) (Wout := Wof K π G H D.ex) (hs j) (hf j) (by rw [F.cN]; exact F.nd) (by rw [F.cN]; exact hi) (by show (X j).env.scope.names.lookup n = _; rw [F.cS]; exact hln) (hNm j) (wd.ex j)
      (fun W pn xe tk po => tssOf (Ytr X W) body ⟨(j, pn, xe), tk, po⟩) (fun a oe cls d pn hz hfs => tssOf (Ysu X a cls d) (b₀ :: suite) ⟨(j, oe, pn), hz, hfs⟩)
    rw [F.cK j] at this
    exact this
  · have fam : Fam (Ytr X (wAs K cv i ts (Wof K π G H D.ex) D')) P w K mg base N sc fv k :=
      ⟨F.nd, fun q => F.cP q.1.1, fun q => F.cW q.1.1, fun q => F.cK q.1.1, fun q => F.cM q.1.1, fun q => F.cB q.1.1, fun q => F.cN q.1.1, fun q => F.cS q.1.1, fun q => F.calm q.1.1, fun q => F.room q.1.1, fun q => q.2.2, fun q => F.cF q.1.1⟩
    refine hb _ fam π G σ H D' hk sk ⟨wd.nx, wd.rt, wd.bk, wd.ct, fun q => q.2.1.imp fun cls d σ' H' ⟨C, fo, ρ', π', G', m', ec, e', hk', sk', fx, nd, b, hb1, hq⟩ => ?_⟩
    subst ec
    refine ⟨b, hb1, fun eb a na => ?_, fun eb => ?_⟩
    · subst eb
      rw [if_pos rfl] at hq
      have fam0 : Fam0 (Ysu X a (.ref C) d) P w K mg base N sc fv k :=
        ⟨F.nd, fun q => F.cP q.1.1, fun q => F.cW q.1.1, fun q => F.cK q.1.1, fun q => F.cM q.1.1, fun q => F.cB q.1.1, fun q => F.cN q.1.1, fun q => F.cS q.1.1, fun q => show (X q.1.1).A.units + 1 < cLine from hu_of (F.room q.1.1), fun q => F.cF q.1.1⟩
      have suf : SuF (Ysu X a (.ref C) d) a C d := fun q => ⟨X q.1.1, q.1.2.1, q.1.2.2, rfl, q.2.1, q.2.2⟩
      have sw := hq _ (Ysu X a (.ref C) d) a d fam0 suf
      have never : ∀ q, Takes (Ysu X a (.ref C) d q) (Wof K π G H fun _ _ _ _ => False) := fun q u s' ⟨_, _, _, _, _, _, _, _, _, _, _, _, _, _, _, _, z⟩ => let ⟨_, _, _, _, _, _, _, _, _, _, _, _, z2⟩ := z; z2
      have sd : ∀ {π2 : List Addr}, Xt π G H π2 G' H' → Wd (Ysu X a (.ref C) d) K π2 G' H' (suD i D) { nx := fun σ' H' => D'.nx (σ'.set i none) H', rt := D'.rt, bk := fun σ' H' => D'.bk (σ'.set i none) H', ct := fun σ' H' => D'.ct (σ'.set i none) H' } := fun {π2} e2 =>
        ⟨fun σ3 ρ3 π3 G3 H3 m3 e3 hk3 sk3 q => wd.nx _ _ π3 G3 H3 m3 (e2.trans e3) hk3 (sk3.clear i) q, wd.rt.xt e2, fun σ3 ρ3 π3 G3 H3 m3 e3 hk3 sk3 q => wd.bk _ _ π3 G3 H3 m3 (e2.trans e3) hk3 (sk3.clear i) q,
          fun σ3 ρ3 π3 G3 H3 m3 e3 hk3 sk3 q => wd.ct _ _ π3 G3 H3 m3 (e2.trans e3) hk3 (sk3.clear i) q, fun q => (never q).imp fun _ _ _ _ w => w.imp e2 fun _ _ _ _ z => z⟩
      cases fo with
      | none =>
        cases d with
        | some _ => exact fx.elim
        | none => exact sw rfl π' G' _ H' _ hk' (sk'.set (show Rv K G' π' (.ref a) (.x a) from rfl) i) (sd e')
      | some gs =>
        cases d with
        | none => exact fx.elim
        | some dd =>
          obtain ⟨fs, h1, h2, h3, h4⟩ := fx
          have mo : ∀ (i : Nat) (c : Addr), π'[i]? = some c → (π' ++ [dd])[i]? = some c := fun i c q => by
            rw [List.getElem?_append_left (List.getElem?_eq_some_iff.mp q).1]; exact q
          have hk2 : Hk K (π' ++ [dd]) G' H' (m' ++ [.xdo gs]) := hk'.own h1 h3 h4 (show Rob K G' (π' ++ [dd]) (.xd fs) (.xdo gs) from ⟨fs, rfl, Paired.mapP h2 fun _ _ z => ⟨z.1, z.2.mono (Same.refl _) mo⟩⟩)
          have e2 : Xt π G H (π' ++ [dd]) G' H' := by
            obtain ⟨τ, et, ft⟩ := e'.p
            refine ⟨e'.g, ⟨τ ++ [dd], by rw [et, List.append_assoc], fun c hc => ?_⟩, e'.fr, e'.al, e'.n⟩
            rcases List.mem_append.mp hc with hc | hc
            · exact ft c hc
            · simp at hc; subst hc; exact nd _ rfl
          have sk2 : Sk K (π' ++ [dd]) G' σ' ρ' := ⟨sk'.len, fun j y q => let ⟨v, q1, q2⟩ := sk'.get j y q; ⟨v, q1, q2.mono (Same.refl _) mo⟩⟩
          have rx : Rv K G' (π' ++ [dd]) (.ref a) (.e a dd m'.length) := ⟨rfl, by
            rw [List.getElem?_append_right (by rw [hk'.len]; exact Nat.le_refl _)]
            simp [hk'.len]⟩
          exact sw dd rfl (π' ++ [dd]) G' _ H' _ hk2 (sk2.set rx i) (sd e2)
    · subst eb
      rw [if_neg Bool.false_ne_true] at hq
      exact ⟨C, fo, ρ', π', G', m', rfl, e', hk', sk', fx, nd, hq⟩
end
/-- the frame of a def, as a try asks for it -/
def Frm {ι : Type} (X : ι → Cx) : Prop := (∀ j, (X j).stack = (X j).env :: (X j).outer) ∧ ∀ j, (X j).env.frame = some (X j).env.locals
section
variable {P : Program} {w : World} {K : PySem.W.Frag} {mg : Str → Option Value} {base : Heap}
theorem fn_mt {nm qual : Str} {st : Stmt} {f : Addr} {fd : FuncData} {N ps : List Str} {k : Nat} {T : List MV → Mm → QV → Prop} (F : Fun K nm qual st f fd) (S : FnScope N ps (defScope st)) (len : ∀ xs m Q, T xs m Q → xs.length = ps.length)
    (body : ∀ (X : Unit → Cx), Fam X P w K mg base N (defScope st) (fun _ => true) k → Frm X → ∀ xs m Q, T xs m Q → Scd m → Ws X K (defBody st) (startM N xs) m (EndF m.length Q)) : FnOk P w K mg base CX0 (k + 1) f fd ps (spM K T) := by
  refine F.ok S (fun vs H Q E h => ?_) (fun cdv A outer s H vs Q E hr h => ?_)
  · obtain ⟨π, G, m, xs, Qm, hk, rvs, hT, _⟩ := h
    rw [Paired.length rvs]
    exact len xs m Qm hT
  · obtain ⟨π, G, m, xs, Qm, hk, rvs, hT, wv⟩ := h
    have fam : Fam (fun _ : Unit => (cxOf CX0 P w K mg base N qual (defScope st) f cdv A outer s H E).nox) P w K mg base N (defScope st) (fun _ => true) k :=
      ⟨S.nd, fun _ => rfl, fun _ => rfl, fun _ => rfl, fun _ => rfl, fun _ => rfl, fun _ => rfl, fun _ => rfl, fun _ => rfl, fun _ => hr, fun _ => PassesOwn.never, fun _ => rfl⟩
    obtain ⟨t, pt, ht⟩ := body _ fam ⟨fun _ => rfl, fun _ => rfl⟩ xs m Qm hT hk.scd π G (L2.start N vs) H { nx := fun _ H' => Q .non H', rt := Q } hk (sk_start rvs)
      ⟨fun σ' ρ' π' G' H' m' e hk' _ q => ret_wish hk wv .non (.d .none) π' G' H' m' e hk' Da.non q, ret_wish hk wv, fun _ _ _ _ _ _ _ _ _ q => q.elim, fun _ _ _ _ _ _ _ _ _ q => q.elim, fun _ => takes_nox fun _ _ _ _ w => let ⟨_, _, _, _, _, _, _, _, _, _, _, _, z⟩ := w; z⟩
    exact ⟨t, pt (), ht⟩
end
end Wn
set_option Elab.async false
set_option linter.all false
set_option maxRecDepth 100000
set_option maxHeartbeats 2000000
set_option autoImplicit false
namespace Wn
open PySem L2 PyProof.Rows
section
variable {K : PySem.W.Frag} {A B : Addr}
theorem cls_some (h : PySem.W.hasDictIn K B = true) : (PySem.W.clsIn K B).isSome = true := by
  obtain ⟨cd, hc, _⟩ := PySem.W.any_some h
  rw [hc]; rfl
theorem kit_c {t : Value} {r : Bool} (hd : PySem.W.hasDictIn K B = true) (ht : PySem.W.typeIn K (.ref B) = some (.type "type")) (h : PySem.W.subIn K t (.ref B) = some r) : PySem.W.kitCls K t (.ref B) = some r := by
  have e : ((PySem.W.clsIn K B).isSome && PySem.W.typeIn K (.ref B) == some (.type "type")) = true := by rw [cls_some hd, ht] <;> rfl
  show (if ((PySem.W.clsIn K B).isSome && PySem.W.typeIn K (.ref B) == some (.type "type")) = true then PySem.W.subIn K t (.ref B) else none) = some r
  rw [if_pos e]
  exact h
theorem kit_yes (hd : PySem.W.hasDictIn K B = true) (ht : PySem.W.typeIn K (.ref B) = some (.type "type")) (h : PySem.W.subIn K (.ref A) (.ref B) = some true) : PySem.W.kitOne K (.ref A) (.ref B) = some true := by
  unfold PySem.W.kitOne
  split
  · rfl
  · exact kit_c hd ht h
theorem kit_no (hd : PySem.W.hasDictIn K B = true) (ht : PySem.W.typeIn K (.ref B) = some (.type "type")) (hs : PySem.W.subIn K (.ref A) (.ref A) = some true) (h : PySem.W.subIn K (.ref A) (.ref B) = some false) : PySem.W.kitOne K (.ref A) (.ref B) = some false := by
  unfold PySem.W.kitOne
  split
  · rename_i e
    have e2 : A = B := Value.ref.inj (beq_iff_eq.mp e)
    subst e2
    rw [hs] at h; cases h
  · exact kit_c hd ht h
theorem kit_typ {T : String} {r : Bool} (hm : PySem.W.kitMeta T = true) (h : PySem.W.subIn K (.ref A) (.type T) = some r) : PySem.W.kitOne K (.ref A) (.type T) = some r := by
  unfold PySem.W.kitOne
  rw [if_neg (by intro e; cases (beq_iff_eq.mp e))]
  show (if PySem.W.kitMeta T = true then PySem.W.subIn K (.ref A) (.type T) else none) = some r
  rw [if_pos hm]
  exact h
theorem kit_any2 {t a b : Value} (h1 : PySem.W.kitOne K t a = some false) (h2 : PySem.W.kitOne K t b = some false) : PySem.W.kitAny K t [a, b] = some false := by
  simp [PySem.W.kitAny, h1, h2]
end
end Wn
set_option Elab.async false
set_option linter.all false
set_option maxRecDepth 100000
set_option maxHeartbeats 2000000
set_option autoImplicit false
namespace Wn
open PySem L2 PyProof.Rows
/-! ### repr of tuples with dicts in them, no lists -/
mutual
def noL : PyData → Bool
  | .list _ => false
  | .tuple ds => noLs ds
  | .dict kvs => noLk kvs
  | _ => true
def noLs : List PyData → Bool
  | [] => true
  | d :: ds => noL d && noLs ds
def noLk : List (PyData × PyData) → Bool
  | [] => true
  | (_, d) :: ds => noL d && noLk ds
end
theorem first_at {c : Nat} : ∀ {t : List Nat}, c ∈ t → ∃ u v, t = u ++ c :: v ∧ c ∉ u
  | [], h => by simp at h
  | a :: r, h => by
    by_cases e : a = c
    · subst e; exact ⟨[], r, rfl, by simp⟩
    · obtain ⟨u, v, e2, hu⟩ := first_at (t := r) (by rcases List.mem_cons.mp h with z | z; exact absurd z.symm e; exact z)
      exact ⟨a :: u, v, by rw [e2]; rfl, by simp; exact ⟨fun z => e z.symm, hu⟩⟩
section
variable {X : Cx} {pins : List (Addr × Obj)} {σ : L2.St} {H : Hp} {s : Shared}
theorem da_readsT (I : Inv X pins σ H s) {v : V} {d : PyData} (h : Da X.K H v d) : noL d = true → ∀ u, RelV v u → ∃ as, Reads s.heap u d as ∧ sysModules ∉ as :=
  Da.rec (K := X.K) (H := H) (motive_1 := fun v d _ => noL d = true → ∀ u, RelV v u → ∃ as, Reads s.heap u d as ∧ sysModules ∉ as) (motive_2 := fun vs ds _ => noLs ds = true → ∀ us, Vals vs us → ∃ as, ReadsAll s.heap us ds as ∧ sysModules ∉ as)
    (motive_3 := fun kvs ds _ => noLk ds = true → ∀ (vs : List (Key × Value)) (es : List DictEntry), KV kvs vs → Pairs (mixKind X.prog X.w) es vs → ∃ as, ReadsAll s.heap (es.map (·.val)) (ds.map (·.2)) as ∧ sysModules ∉ as)
    (fun _ u r => by cases r; exact ⟨_, Reads.none, by simp⟩)
    (fun b _ u r => by cases r; exact ⟨_, Reads.bool b, by simp⟩)
    (fun i _ u r => by obtain ⟨t, rfl⟩ := r; exact ⟨_, Reads.int i t, by simp⟩)
    (fun i _ u r => by obtain ⟨t, rfl⟩ := r; exact ⟨_, Reads.str i t, by simp⟩)
    (fun hs _ ih n u r => by have n' : false = true := n; cases n')
    (fun hs _ ih n u r => by
      cases r
      obtain ⟨its, rv, ⟨o, ho, hc, n', hd⟩, _⟩ := I.tuple hs
      obtain ⟨as, hr, ns⟩ := ih n its rv
      exact ⟨_, Reads.tuple ho hc hd hr, ns⟩)
    (fun {a kvs ds} ha hkv ih n u r => by
      cases (show u = Value.ref a from r)
      obtain ⟨_, nsy, vs, kv, o, es, ep, e, ex, ed, _, pr, _⟩ := (show ObjOk X.prog X.w H s.heap a (.dK kvs) from I.hok a _ ha)
      obtain ⟨as, hr, ns⟩ := ih n vs es.toList kv pr
      refine ⟨_, Reads.dict e ex.1 ed (kv_reads _ _ _ _ hkv kv pr) hr, ?_⟩
      have na : sysModules ≠ a := fun z => by subst z; simp at nsy
      simp
      exact ⟨na, ns⟩)
    (fun _ us r => by cases r; exact ⟨_, ReadsAll.nil, by simp⟩)
    (fun {v vs d ds} _ _ ih1 ih2 n us r => by
      have n : (noL d && noLs ds) = true := n
      rw [Bool.and_eq_true] at n
      cases r with
      | cons r1 r2 =>
        obtain ⟨as, q1, s1⟩ := ih1 n.1 _ r1
        obtain ⟨bs, q2, s2⟩ := ih2 n.2 _ r2
        exact ⟨_, ReadsAll.cons q1 q2, by simp [s1, s2]⟩)
    (fun _ vs es kv pr => by cases kv; cases pr; exact ⟨_, ReadsAll.nil, by simp⟩)
    (fun {k v kvs d ds} _ _ ih1 ih2 n vs es kv pr => by
      have n : (noL d && noLk ds) = true := n
      rw [Bool.and_eq_true] at n
      cases kv with
      | cons r rs =>
        cases pr with
        | cons h1 h2 hp =>
          obtain ⟨as, q1, s1⟩ := ih1 n.1 _ (show RelV _ _ from h2 ▸ r.2)
          obtain ⟨bs, q2, s2⟩ := ih2 n.2 _ _ rs hp
          exact ⟨_, ReadsAll.cons q1 q2, by simp [s1, s2]⟩) h
end
def rRepT (K : PySem.W.Frag) : List V → Hp → VK → Prop := fun xs H Q => (∃ v d, xs = [v] ∧ Da K H v d ∧ d.isTuple = true ∧ noL d = true ∧ d.showable = true ∧ d.depth ≤ 100 ∧ d.shown.length ≤ sizeLine ∧ Q (.str d.shown) H) ∨ rRepX K xs H Q
theorem cr_repT {X : Cx} {k : Nat} (hr : Room k X.A) (hg : X.A.guards = some []) : CallR X (.builtin "repr") (rRepT X.K) := by
  intro pins s σ H xs us Q I r h
  rcases h with ⟨v, d, rfl, hd, ht, hn, hs, hm, hz, q⟩ | h
  · obtain ⟨u, rfl, ru⟩ := vals1 r
    obtain ⟨as, rd, ns⟩ := da_readsT I hd hn u ru
    cases hd with
    | tup h1 h2 => cases ru; exact repr_of_reads' rd hs (fun _ => ns) hg (un_of hr (by omega)) (fun _ _ e => e) (fun h' u tk hk => ⟨.str _, H, I.kept (t' := tk) hk, ⟨u, rfl⟩, q⟩) hz
    | _ => cases ht
  · exact cr_repX hr hg pins s σ H xs us Q I r h
/-- what may be shown: as ahead, or a tuple with dicts in it and no list -/
def Sht (d : PyData) : Prop := Shw d ∨ (d.isTuple = true ∧ noL d = true ∧ d.showable = true ∧ d.depth ≤ 100 ∧ d.shown.length ≤ sizeLine)
section
variable {ι : Type} {X : ι → Cx} {P : Program} {w : World} {K : PySem.W.Frag} {mg : Str → Option Value} {base : Heap} {N : List Str} {sc : Scope} {fv : Str → Bool} {k : Nat} {ρ : Ro} {m : Mm} {Q : QV} {D : Ed} {a b e f : Expr} {pos p : Pos} {x y : MV}
theorem c_repT (F : Fam X P w K mg base N sc fv k) (hg : ∀ j, (X j).A.guards = some []) {d : PyData} (h : Sht d) (q : Q (.d (.str d.shown)) m) : CaW X K (.builtin "repr") [.d d] m Q := fun π G H R vs hk rs wv => by
  rcases h with h | ⟨h1, h2, h3, h4, h5⟩
  · obtain ⟨r, hr, hh⟩ := c_repX F hg h q π G H R vs hk rs wv
    exact ⟨r, hr, hh⟩
  · obtain ⟨v, rfl, rv⟩ := rvs1 rs
    exact ⟨rRepT K, fun j => F.cK j ▸ cr_repT (F.room j) (hg j), .inl ⟨v, d, rfl, da_mono hk.sub rv, h1, h2, h3, h4, h5, wv (.str d.shown) (.d (.str d.shown)) π G H m Xt.refl hk (Da.str _) q⟩⟩
theorem b_repT (F : Fam X P w K mg base N sc fv k) (hg : ∀ j, (X j).A.guards = some []) (hm : mg "repr" = none) (h : We X K e ρ m fun x m1 => ∃ d, x = .d d ∧ Sht d ∧ Q (.d (.str d.shown)) m1) (hgl : sc.names.lookup ("repr" : Str) = some .globalImplicit := by rfl) (he : ∀ env : Env, starEach [e] env = (false, eval e env) :: starEach [] env := by intro _; rfl) (hpl : ∀ env : Env, (backTo pos (starEach [] env)).any (·.1) = false := by intro _; rfl) :
    We X K (.Call (.Name "repr" p) [e] [] pos) ρ m Q := we_callB F (wr_cons (h.mono fun x m1 ⟨d, ex, hd, q⟩ => by subst ex; exact wr_nil (c_repT F hg hd q)) he) hm bo_repr hgl (by decide) (by decide) he hpl
/-! ### texts -/
theorem call_str_bool {X : Cx} : CallR X (.type "str") (fun xs H Q => ∃ b : Bool, xs = [.bl b] ∧ Q (.str (if b then "True" else "False")) H) := by
  intro pins s σ H xs us Q I r h
  obtain ⟨b, rfl, q⟩ := h
  obtain ⟨u, rfl, r1⟩ := vals1 r
  cases r1
  refine PySem.P.str_of_bool ⟨.str _, H, I.tok _, ⟨_, rfl⟩, ?_⟩
  cases b <;> exact q
def boolL (b : Bool) : List Nat := if b then [84, 114, 117, 101] else [70, 97, 108, 115, 101]
theorem c_strB {bb : Bool} (q : Q (.d (sD (boolL bb))) m) : CaW X K (.type "str") [.d (.bool bb)] m Q := fun π G H R vs hk rs wv => by
  obtain ⟨v, rfl, rv⟩ := rvs1 rs
  refine ⟨_, fun _ => call_str_bool, bb, by rw [Da.blI rv], ?_⟩
  have := wv (.str (mkS (boolL bb))) (.d (sD (boolL bb))) π G H m Xt.refl hk (Da.str _) q
  cases bb <;> exact this
theorem b_strB0 (F : Fam0 X P w K mg base N sc fv k) (hm : mg "str" = none) (h : We X K e ρ m fun x m1 => ∃ bb : Bool, x = .d (.bool bb) ∧ Q (.d (sD (boolL bb))) m1) (hg : sc.names.lookup ("str" : Str) = some .globalImplicit := by rfl) (he : ∀ env : Env, starEach [e] env = (false, eval e env) :: starEach [] env := by intro _; rfl) (hpl : ∀ env : Env, (backTo pos (starEach [] env)).any (·.1) = false := by intro _; rfl) :
    We X K (.Call (.Name "str" p) [e] [] pos) ρ m Q := we_callT0 F (wr_cons (h.mono fun x m1 ⟨bb, ex, q⟩ => by subst ex; exact wr_nil (c_strB q)) he) hm bo_str hg (by decide) (by decide) he hpl
/-- text.partition(sign), the sign there or not -/
theorem we_partA (F : Fam X P w K mg base N sc fv k) {o : Expr} {apos : Pos} (h : We X K o ρ m fun y m1 => ∃ t : List Nat, y = .d (sD t) ∧ We X K e ρ m1 fun x m2 => ∃ c : Nat, x = .d (sD [c]) ∧ t.length ≤ 100000 ∧ (c ∉ t → Q (.d (.tuple [sD t, sD [], sD []])) m2) ∧ ∀ u v, t = u ++ c :: v → c ∉ u → Q (.d (.tuple [sD u, sD [c], sD v])) m2)
    (hs : ∀ env : Env, starEach [e] env = [(false, eval e env)] := by intro _; rfl) (hbase : ∀ env : Env, attributeBase o "partition" env (eval o env) = eval o env := by intro _; rfl) (hline : (apos.endLine == pos.line) = true := by rfl) :
    We X K (.Call (.Attribute o "partition" apos) [e] [] pos) ρ m Q := fun π G σ H R hk sk wv => by
  refine ⟨_, fun j => pe_partition (teOf X o j) (teOf X e j) (hs _) (hbase _) hline, h π G σ H _ hk sk fun v y π1 G1 H1 m1 e1 hk1 rv ⟨t, ey, q1⟩ => ?_⟩
  subst ey
  have ev := Da.strI rv
  refine ⟨⟨_, ev⟩, q1 π1 G1 σ H1 _ hk1 (sk.xt e1) fun u x π2 G2 H2 m2 e2 hk2 ru ⟨c, ex, hl, q0, qq⟩ => ?_⟩
  subst ex
  refine ⟨mkS t, mkS [c], ev, by rw [Da.strI ru], by rw [mkS_len]; rfl, by rw [mkS_len]; exact Nat.le_trans hl (by decide), fun pa hp => ?_⟩
  by_cases hc : c ∈ t
  · obtain ⟨ul, vl, et, hu⟩ := first_at hc
    have e3 : mkS t = mkS ul ++ mkS [c] ++ mkS vl := by rw [et, mkS_app, mkS_app, List.append_assoc]; rfl
    have ep : Txt.partition (mkS t) (mkS [c]) = (mkS ul, mkS [c], mkS vl) := by
      rw [e3]
      exact TL.partition_app (y := mkS [c]) (s := c) (S := []) rfl (by show c ∉ (mkS ul).cps.toList; rw [mkS_tl]; exact hu)
    rw [ep]
    exact newt hk2 hp (.cons (Da.str _) (.cons (Da.str _) (.cons (Da.str _) .nil))) (qq ul vl et hu) (wv.xt (e1.trans e2))
  · have ep : Txt.partition (mkS t) (mkS [c]) = (mkS t, mkS [], mkS []) := TL.partition_none (y := mkS [c]) (s := c) (S := []) rfl (by show c ∉ (mkS t).cps.toList; rw [mkS_tl]; exact hc)
    rw [ep]
    exact newt hk2 hp (.cons (Da.str _) (.cons (Da.str _) (.cons (Da.str _) .nil))) (q0 hc) (wv.xt (e1.trans e2))
theorem found_mk (l : List Nat) (c : Nat) : (!(Builtin.Str.occurrences (mkS l) (mkS [c]) 0 (mkS l).length 1).isEmpty) = decide (c ∈ l) := by
  have := StrLaws.found_one (mkS l) c
  rw [mkS_tl] at this
  exact this
theorem o_inT1 {c : Nat} {l : List Nat} (q : Q (.d (.bool (decide (c ∈ l)))) m) : OpW X K (compareOp .In) (.d (sD [c])) (.d (sD l)) m Q := fun π G H R u v hk ru rv wv => by
  refine ⟨_, fun _ => op_in_str, mkS [c], mkS l, Da.strI ru, Da.strI rv, ?_⟩
  rw [found_mk]
  exact wv _ (.d (.bool _)) π G H m Xt.refl hk (Da.bl _) q
theorem o_notInT1 {c : Nat} {l : List Nat} (q : Q (.d (.bool (!decide (c ∈ l)))) m) : OpW X K (compareOp .NotIn) (.d (sD [c])) (.d (sD l)) m Q := fun π G H R u v hk ru rv wv => by
  refine ⟨_, fun _ => op_notIn_str, mkS [c], mkS l, Da.strI ru, Da.strI rv, ?_⟩
  rw [found_mk]
  exact wv _ (.d (.bool _)) π G H m Xt.refl hk (Da.bl _) q
end
/-! splitting at a sign -/
def spC (c : Nat) : List Nat → List (List Nat)
  | [] => [[]]
  | x :: r => if x = c then [] :: spC c r else match spC c r with
    | h :: t => (x :: h) :: t
    | [] => [[x]]
theorem spC_ok (c : Nat) : ∀ t : List Nat, spC c t ≠ [] ∧ TL.joinL [c] (spC c t) = t ∧ ∀ l ∈ spC c t, c ∉ l
  | [] => ⟨by simp [spC], rfl, by simp [spC]⟩
  | x :: r => by
    obtain ⟨h1, h2, h3⟩ := spC_ok c r
    unfold spC
    by_cases h : x = c
    · rw [if_pos h]
      subst h
      refine ⟨by simp, ?_, fun l hl => ?_⟩
      · cases hs : spC x r with
        | nil => exact absurd hs h1
        | cons a t =>
          rw [hs] at h2
          show [] ++ ([x] ++ TL.joinL [x] (a :: t)) = x :: r
          rw [h2]; rfl
      · rcases List.mem_cons.mp hl with rfl | hl
        · simp
        · exact h3 l hl
    · rw [if_neg h]
      cases hs : spC c r with
      | nil => exact absurd hs h1
      | cons a t =>
        rw [hs] at h2 h3
        refine ⟨by simp, ?_, fun l hl => ?_⟩
        · cases t with
          | nil =>
            have h2 : a = r := h2
            show x :: a = x :: r
            rw [h2]
          | cons b t =>
            have h2 : a ++ ([c] ++ TL.joinL [c] (b :: t)) = r := h2
            show (x :: a) ++ ([c] ++ TL.joinL [c] (b :: t)) = x :: r
            rw [← h2]; rfl
        · rcases List.mem_cons.mp hl with rfl | hl
          · simp
            exact ⟨fun z => h z.symm, h3 a List.mem_cons_self⟩
          · exact h3 l (List.mem_cons_of_mem _ hl)
theorem spC_len (c : Nat) : ∀ t : List Nat, (spC c t).length ≤ t.length + 1 ∧ ∀ l ∈ spC c t, l.length ≤ t.length
  | [] => ⟨by simp [spC], by simp [spC]⟩
  | x :: r => by
    obtain ⟨h1, h2⟩ := spC_len c r
    unfold spC
    by_cases h : x = c
    · rw [if_pos h]
      refine ⟨by simp; exact h1, fun l hl => ?_⟩
      rcases List.mem_cons.mp hl with rfl | hl
      · simp
      · exact Nat.le_trans (h2 l hl) (by simp)
    · rw [if_neg h]
      cases hs : spC c r with
      | nil => exact ⟨by simp, by simp⟩
      | cons a t =>
        rw [hs] at h1 h2
        refine ⟨by simp at h1 ⊢; omega, fun l hl => ?_⟩
        rcases List.mem_cons.mp hl with rfl | hl
        · simp; exact h2 a List.mem_cons_self
        · exact Nat.le_trans (h2 l (List.mem_cons_of_mem _ hl)) (by simp)
/-- the first piece is what stands ahead of the first sign -/
theorem spC_hit {c : Nat} : ∀ {u v : List Nat}, c ∉ u → (spC c (u ++ c :: v)).head? = some u
  | [], v, _ => by
    show (spC c (c :: v)).head? = some []
    unfold spC
    rw [if_pos rfl]; rfl
  | x :: u, v, h => by
    have hx : x ≠ c := fun z => h (by rw [z]; exact List.mem_cons_self)
    have ih := spC_hit (c := c) (u := u) (v := v) fun z => h (List.mem_cons_of_mem _ z)
    show (spC c (x :: (u ++ c :: v))).head? = some (x :: u)
    unfold spC
    rw [if_neg hx]
    cases hs : spC c (u ++ c :: v) with
    | nil => rw [hs] at ih; cases ih
    | cons a t =>
      rw [hs] at ih
      have ih : a = u := by simpa using ih
      subst ih
      rfl
/-- figures without needless noughts are a number's -/
theorem canon : ∀ (n : Nat) (w : List Nat), w.length = n → w ≠ [] → (∀ c ∈ w, 48 ≤ c ∧ c ≤ 57) → (w.head? = some 48 → w = [48]) → ∃ k : Nat, w = TL.numL k ∧ k < 10 ^ w.length
  | n, w, hn, ne, hd, h0 => by
    induction n generalizing w with
    | zero => exact absurd (List.length_eq_zero_iff.mp hn) ne
    | succ n ih =>
      obtain ⟨v, c, rfl⟩ : ∃ v c, w = v ++ [c] := ⟨w.dropLast, w.getLast ne, (List.dropLast_concat_getLast ne).symm⟩
      have hc := hd c (by simp)
      by_cases hv : v = []
      · subst hv
        refine ⟨c - 48, ?_, by show c - 48 < 10 ^ 1; omega⟩
        rw [TL.numL_lt (by omega)]
        have : 48 + (c - 48) = c := by omega
        rw [this]; rfl
      · have hh : (v ++ [c]).head? = v.head? := by cases v with
          | nil => exact absurd rfl hv
          | cons a r => rfl
        have h48 : v.head? ≠ some 48 := fun z => by
          have := h0 (hh.trans z)
          cases v with
          | nil => exact hv rfl
          | cons a r => simp at this
        obtain ⟨k, e, lk⟩ := ih v (by simp at hn; exact hn) hv (fun x hx => hd x (by simp [hx])) fun z => absurd z h48
        have k0 : 0 < k := by
          by_cases z : k = 0
          · subst z
            rw [e] at h48
            exact absurd (by decide +kernel) h48
          · omega
        refine ⟨10 * k + (c - 48), ?_, ?_⟩
        · rw [TL.numL_step (by omega)]
          have d1 : (10 * k + (c - 48)) / 10 = k := by omega
          have d2 : 48 + (10 * k + (c - 48)) % 10 = c := by omega
          rw [d1, d2, ← e]
        · rw [List.length_append]
          show _ < 10 ^ (v.length + 1)
          rw [Nat.pow_succ]
          omega
end Wn
set_option Elab.async false
set_option linter.all false
set_option maxRecDepth 100000
set_option maxHeartbeats 2000000
namespace PySem
open PySem.W PySem.Calls PyProof.Rows PySem.SeqAt
theorem str_eq_declines_dict' (b : Str) (u : Tok) (l : Addr) (c : Value) (es : Array DictEntry) (n : Nat) (dd : Option Addr) (sl : Array (Option Value)) :
    Meets (Builtin.«str.__eq__» ⟨[.str b u, .ref l], []⟩) (fun _ R s => s.heap.get? l = some { cls := c, dict := dd, data := .dict es n, slots := sl } ∧ R (.ok (.ret .notImplemented)) s) :=
  .of_wp fun prog w A R s h => by obtain ⟨hp, g, d, tk, os⟩ := s; obtain ⟨hl, h⟩ := h; wp_walk using wpAny_loadPart' hl, wpAny_load hl; exact ⟨_, rfl, h⟩
theorem dict_eq_declines_str' (l : Addr) (es : Array DictEntry) (n : Nat) (dd : Option Addr) (sl : Array (Option Value)) (b : Str) (u : Tok) :
    Meets (Builtin.«dict.__eq__» ⟨[.ref l, .str b u], []⟩) (fun _ R s => s.heap.get? l = some { cls := .type "dict", dict := dd, data := .dict es n, slots := sl } ∧ R (.ok (.ret .notImplemented)) s) :=
  .of_wp fun prog w A R s h => by obtain ⟨hp, g, d, tk, os⟩ := s; obtain ⟨hl, h⟩ := h; have f1 := F.sub_str_dict; wp_walk using wpAny_loadPart' hl; exact ⟨_, rfl, h⟩
theorem rc_str_dict {A : Around} {s : Shared} {l : Addr} {es : Array DictEntry} {n : Nat} {dd : Option Addr} {sl : Array (Option Value)} (b : Str) (u : Tok) (ho : s.heap.get? l = some { cls := .type "dict", dict := dd, data := .dict es n, slots := sl }) (hu : A.units < cLine) : RcAt A s (.str b u) (.ref l) false := fun prog w E Q h => by
  exact rc_eq_decline_or (k := false) (typeIs_str s b u) ⟨_, ho, rfl⟩ (by decide) F.sub_dict_str F.slot_str_eq F.slot_dict_eq_refl
    (fun _ hq => call_meets F.slot_str_eq (typeIs_str s b u) F.entry_str_eq (F.args_str_eq_2 _ _) (str_eq_declines_dict' b u l (.type "dict") es n dd sl) ⟨ho, hq⟩)
    (fun _ hq => call_meets F.slot_dict_eq_refl ⟨_, ho, rfl⟩ F.entry_dict_eq (F.args_dict_eq_2 _ _) (dict_eq_declines_str' l es n dd sl b u) ⟨ho, hq⟩)
    (fun _ hq => wpAny_of_eq (rfl : isSame (.str b u) (.ref l) = pure false) hq) (.inr hu) h
theorem eq_str_dict {A : Around} {s : Shared} {l : Addr} {es : Array DictEntry} {n : Nat} {dd : Option Addr} {sl : Array (Option Value)} (b : Str) (u : Tok) (ho : s.heap.get? l = some { cls := .type "dict", dict := dd, data := .dict es n, slots := sl }) (hu : A.units < cLine) : EqAt A s (.str b u) (.ref l) false := fun prog w E Q h => by
  unfold eqBool
  refine wpAny_holding ?_
  refine wpAny_ite_split (fun hab => absurd (eq_of_beq hab) nofun) (fun _ => ?_)
  exact wpAny_bind (rc_str_dict b u ho hu prog w E _ (wpAny_truthy_bool h))
end PySem
namespace Wn
open PySem L2 PyProof.Rows PySem.SeqAt
theorem op_inE {X : Cx} {k : Nat} (hr : Room k X.A) : OpR X (compareOp .In) (fun x y H Q => ∃ ws : List Str, (∃ ds, Da X.K H x (.dict ds)) ∧ Da X.K H y (.tuple (ws.map PyData.str)) ∧ Q (.bl false) H) := by
  intro pins s σ H x y v u Q I rx ry h
  obtain ⟨ws, ⟨ds, hd⟩, he, q⟩ := h
  cases hd with
  | @dct a kvs ds' h1 h2 =>
    cases rx
    obtain ⟨_, ns, vs, kv, o, es, ep, e, ex, ed, _, pr, _⟩ := (show ObjOk X.prog X.w H s.heap a (.dK kvs) from I.hok a _ h1)
    obtain ⟨t, xs, rfl, ht, dt⟩ := Da.tupI he
    cases ry
    obtain ⟨its, rv, ⟨o2, ho, hc, n, hdt⟩, hz⟩ := I.tuple ht
    obtain ⟨oc, od, odt, osl⟩ := o
    obtain ⟨x1, x2, x3⟩ := ex
    simp only at x1 x2 x3 ed
    subst x1 x2 x3 ed
    have hs : ∀ y ∈ its, ∃ (b : Str) (tk : Tok), y = .str b tk := by
      clear he ho hdt hc ht q hz
      induction ws generalizing xs its with
      | nil => cases dt; cases rv; simp
      | cons w ws ih =>
        cases dt with
        | cons d1 d2 =>
          cases rv with
          | cons r1 r2 =>
            intro y hy
            rcases List.mem_cons.mp hy with rfl | hy
            · have := Da.strI d1
              subst this
              obtain ⟨tk, rfl⟩ := r1
              exact ⟨_, _, rfl⟩
            · exact ih _ d2 _ r2 y hy
    refine in_tupleAt (fun _ => false) ⟨o2, ho, hc, n, hdt⟩ (fun y hy => ?_) ⟨.bl false, H, I, ?_, q⟩
    · obtain ⟨b, tk, rfl⟩ := hs y (by simpa using hy)
      exact eq_str_dict b tk e (by show X.A.units + 1 < cLine; exact un_of hr (by omega))
    · show Value.bool _ = Value.bool _
      simp
section
variable {ι : Type} {X : ι → Cx} {P : Program} {w : World} {K : PySem.W.Frag} {mg : Str → Option Value} {base : Heap} {N : List Str} {sc : Scope} {fv : Str → Bool} {k : Nat} {ρ : Ro} {m : Mm} {Q : QV}
theorem o_inE (F : Fam X P w K mg base N sc fv k) {ws : List Str} {ds : List (PyData × PyData)} (q : Q (.d (.bool false)) m) : OpW X K (compareOp .In) (.d (.dict ds)) (.d (.tuple (ws.map PyData.str))) m Q := fun π G H R u v hk ru rv wv =>
  ⟨_, fun j => F.cK j ▸ op_inE (F.room j), ws, ⟨ds, da_mono hk.sub ru⟩, da_mono hk.sub rv, wv _ (.d (.bool false)) π G H m Xt.refl hk (Da.bl _) q⟩
end
end Wn
set_option Elab.async false
set_option linter.all false
set_option maxRecDepth 100000
set_option maxHeartbeats 2000000
set_option autoImplicit false
namespace Wn
open PySem L2 PyProof.Rows
/-! ### lists against []; a dict of one text key, written; repr of dicts alone -/
def rNeNil (K : PySem.W.Frag) : R2 := fun x y H Q => ∃ ds, Da K H x (.list ds) ∧ Da K H y (.list []) ∧ Q (.bl (!ds.isEmpty)) H
theorem op_neNil {X : Cx} {k : Nat} (hr : Room k X.A) : OpR X (compareOp .NotEq) (rNeNil X.K) := by
  intro pins s σ H x y v u Q I rx ry h
  obtain ⟨ds, hd, he, q⟩ := h
  cases ds with
  | nil =>
    obtain ⟨as, r1⟩ := da_reads I hd v rx
    obtain ⟨bs, r2⟩ := da_reads I he u ry
    exact PySem.SeqAt.ne_plain r1 r2 rfl rfl (un_of hr (by simp [PyData.depth, PyData.depthAll])) ⟨.bl _, H, I, rfl, q⟩
  | cons d ds =>
    cases hd with
    | lst h1 a1 =>
      cases he with
      | lst h2 a2 =>
        cases a1
        cases a2
        cases rx
        cases ry
        obtain ⟨its, rv, ⟨o, n, ho, hc, _, hd⟩, _⟩ := I.list (SqL.of h1)
        obtain ⟨its2, rv2, ⟨o2, n2, ho2, hc2, _, hd2⟩, _⟩ := I.list (SqL.of h2)
        have e1 := Paired.length rv
        have e2 := Paired.length rv2
        refine PySem.SeqAt.RcNeAt.lists_lengths ⟨o, ho, hc, n, hd⟩ ⟨o2, ho2, hc2, n2, hd2⟩ ?_ (un_of hr (by decide : 0 ≤ 150)) _ _ _ _ ⟨.bl _, H, I, rfl, q⟩
        rw [bne_iff_ne]
        show its.length ≠ its2.length
        rw [← e1, ← e2]
        simp
def rRepD (K : PySem.W.Frag) : List V → Hp → VK → Prop := fun xs H Q => (∃ v d, xs = [v] ∧ Da K H v d ∧ d.isDict = true ∧ noL d = true ∧ d.showable = true ∧ d.depth ≤ 100 ∧ d.shown.length ≤ sizeLine ∧ Q (.str d.shown) H) ∨ rRepT K xs H Q
theorem cr_repD {X : Cx} {k : Nat} (hr : Room k X.A) (hg : X.A.guards = some []) : CallR X (.builtin "repr") (rRepD X.K) := by
  intro pins s σ H xs us Q I r h
  rcases h with ⟨v, d, rfl, hd, ht, hn, hs, hm, hz, q⟩ | h
  · obtain ⟨u, rfl, ru⟩ := vals1 r
    obtain ⟨as, rd, ns⟩ := da_readsT I hd hn u ru
    cases hd with
    | dct h1 h2 => cases ru; exact repr_of_reads' rd hs (fun _ => ns) hg (un_of hr (by omega)) (fun _ _ e => e) (fun h' u tk hk => ⟨.str _, H, I.kept (t' := tk) hk, ⟨u, rfl⟩, q⟩) hz
    | _ => cases ht
  · exact cr_repT hr hg pins s σ H xs us Q I r h
/-- what may be shown, dicts alone among it -/
def Shd (d : PyData) : Prop := Sht d ∨ (d.isDict = true ∧ noL d = true ∧ d.showable = true ∧ d.depth ≤ 100 ∧ d.shown.length ≤ sizeLine)
section
variable {ι : Type} {X : ι → Cx} {P : Program} {w : World} {K : PySem.W.Frag} {mg : Str → Option Value} {base : Heap} {N : List Str} {sc : Scope} {fv : Str → Bool} {k : Nat} {ρ : Ro} {m : Mm} {Q : QV} {D : Ed} {a b e f : Expr} {pos p : Pos} {x y : MV}
theorem o_neNil (F : Fam X P w K mg base N sc fv k) {ds : List PyData} (q : Q (.d (.bool (!ds.isEmpty))) m) : OpW X K (compareOp .NotEq) (.d (.list ds)) (.d (.list [])) m Q := fun π G H R u v hk ru rv wv =>
  ⟨rNeNil K, fun j => F.cK j ▸ op_neNil (F.room j), ds, da_mono hk.sub ru, da_mono hk.sub rv, wv _ (.d (.bool _)) π G H m Xt.refl hk (Da.bl _) q⟩
theorem we_disp1 {s : Str} {i : Int} {n1 n2 : Nat} {p1 p2 : Pos} (q : Q (.d (.dict [(.str s, .int i)])) m) : We X K (.Dict [some (.Constant (.str s) n1 p1)] [.Constant (.int i) n2 p2] pos) ρ m Q := fun π G σ H R hk sk wv =>
  ⟨_, fun _ => pe_disp (pps_cons pe_str pe_int pps_nil) (by rfl) (by rfl) (fun z => by cases z) (by simp), fun pa hp => ⟨upd_same, [(.inr s, .int i)], rfl, by simp, by
    have e : upd (upd H pa (.dK [])) pa (.dK (mergeK [] [(.inr s, .int i)])) = upd H pa (.dK [(.inr s, .int i)]) := upd_upd
    rw [e]
    exact wv _ (.d (.dict [(.str s, .int i)])) π (upd G pa (.dK [(.inr s, .int i)])) _ m (Xt.new hp (hk.sub.free hp)) (hk.new hp) (Da.dct upd_same (.cons (k := .inr s) (.int i) .nil)) q⟩⟩
theorem c_repD (F : Fam X P w K mg base N sc fv k) (hg : ∀ j, (X j).A.guards = some []) {d : PyData} (h : Shd d) (q : Q (.d (.str d.shown)) m) : CaW X K (.builtin "repr") [.d d] m Q := fun π G H R vs hk rs wv => by
  rcases h with h | ⟨h1, h2, h3, h4, h5⟩
  · obtain ⟨r, hr, hh⟩ := c_repT F hg h q π G H R vs hk rs wv
    exact ⟨r, hr, hh⟩
  · obtain ⟨v, rfl, rv⟩ := rvs1 rs
    exact ⟨rRepD K, fun j => F.cK j ▸ cr_repD (F.room j) (hg j), .inl ⟨v, d, rfl, da_mono hk.sub rv, h1, h2, h3, h4, h5, wv (.str d.shown) (.d (.str d.shown)) π G H m Xt.refl hk (Da.str _) q⟩⟩
theorem b_repD (F : Fam X P w K mg base N sc fv k) (hg : ∀ j, (X j).A.guards = some []) (hm : mg "repr" = none) (h : We X K e ρ m fun x m1 => ∃ d, x = .d d ∧ Shd d ∧ Q (.d (.str d.shown)) m1) (hgl : sc.names.lookup ("repr" : Str) = some .globalImplicit := by rfl) (he : ∀ env : Env, starEach [e] env = (false, eval e env) :: starEach [] env := by intro _; rfl) (hpl : ∀ env : Env, (backTo pos (starEach [] env)).any (·.1) = false := by intro _; rfl) :
    We X K (.Call (.Name "repr" p) [e] [] pos) ρ m Q := we_callB F (wr_cons (h.mono fun x m1 ⟨d, ex, hd, q⟩ => by subst ex; exact wr_nil (c_repD F hg hd q)) he) hm bo_repr hgl (by decide) (by decide) he hpl
end
end Wn
set_option Elab.async false
set_option linter.all false
set_option maxRecDepth 100000
set_option maxHeartbeats 2000000
set_option autoImplicit false
namespace Wn
open PySem L2 PyProof.Rows
/-! ### dicts by pairs, a class without own __init__ -/
def hasT (gs : List (List Key × MV)) (k : List Key) : Bool := gs.any fun kv => decide (kv.1 = k)
section
variable {K : PySem.W.Frag} {π : List Addr} {G H : Hp} {m : Mm}
theorem rkt_any {k : List Key} : ∀ {fs : List (List Key × V)} {gs : List (List Key × MV)}, Paired (Rkt K G π) fs gs → (fs.any fun kv => decide (kv.1 = k)) = hasT gs k
  | _, _, .nil => rfl
  | _, _, .cons r t => by
    have := rkt_any (k := k) t
    unfold hasT at this ⊢
    rw [List.any_cons, List.any_cons, this, r.1]
theorem valV_any {fs : List (List Key × V)} {k : List Key} : (valV fs k).isSome = fs.any fun kv => decide (kv.1 = k) := by
  unfold valV
  rw [Option.isSome_map]
  induction fs with
  | nil => rfl
  | cons p r ih =>
    rw [List.find?_cons, List.any_cons]
    cases h : decide (p.1 = k)
    · rw [Bool.false_or]; exact ih
    · rfl
theorem dtp_real {v : V} {i : Nat} {gs : List (List Key × MV)} (hk : Hk K π G H m) (rv : Rv K G π v (.r i)) (hi : m[i]? = some (.dtp gs)) : ∃ a fs, v = .ref a ∧ π[i]? = some a ∧ H a = some (.dT fs) ∧ Paired (Rkt K G π) fs gs := by
  obtain ⟨a, ha, rfl⟩ := rv
  obtain ⟨a', u, h1, h2, fs, eu, rs⟩ := hk.obj i _ hi
  rw [ha] at h1; cases h1
  subst eu
  exact ⟨a, fs, rfl, ha, h2, rs⟩
theorem o_real {v : V} {i : Nat} {u : HO} (hk : Hk K π G H m) (rv : Rv K G π v (.r i)) (hi : m[i]? = some (.o u)) : ∃ a, v = .ref a ∧ π[i]? = some a ∧ H a = some u := by
  obtain ⟨a, ha, rfl⟩ := rv
  obtain ⟨a', u', h1, h2, eu⟩ := hk.obj i _ hi
  rw [ha] at h1; cases h1
  have eu : u' = u := eu
  subst eu
  exact ⟨a, rfl, ha, h2⟩
end
theorem data_keys {K : PySem.W.Frag} {G : Hp} : ∀ {ks : List Key} {vs : List V}, DaAll K G vs (ks.map keyD) → vs = ks.map kV
  | [], _, h => by cases h; rfl
  | k :: ks, _, h => by
    cases h with
    | cons h1 h2 =>
      rw [data_keys h2, List.map_cons]
      congr 1
      cases k with
      | inl i => exact Da.intI h1
      | inr x => exact Da.strI h1
/-- a class without own __init__ -/
structure Mb (K : PySem.W.Frag) (C : Addr) : Prop where
  makes : PySem.W.makesIn K C = true
  init : PySem.W.findIn K (.ref C) "__init__" = some (some (.builtin "object.__init__"))
  kp : PySem.W.keepIn K (.ref C) = true
  top : PySem.W.mroIn K C (.type "object") = some true
section
variable {X : Cx} {C : Addr} {x : Str} {p pos : Pos}
theorem run_bare {pins : List (Addr × Obj)} {σ : L2.St} {H : Hp} {s : Shared} {Q : VK} (M : Mb X.K C) (I : Inv X pins σ H s)
    (h : ∀ x dx, H x = none → H dx = none → dx ≠ x → Q (.ref x) (upd (upd H dx (.own x)) x (.ins C dx []))) :
    wpAny (model X.prog X.w) X.A (call (.ref C) []) (EP X pins σ Q) X.xe s := by
  have hq := h (s.heap.objs.size + 1) s.heap.objs.size (I.hok.fresh (Nat.le_succ _)) (I.hok.fresh (Nat.le_refl _)) (Nat.ne_of_lt (Nat.lt_succ_self _))
  have I2 := Inv.made (C := C) I
  have ho : ((s.heap.push PySem.W.emptyDict).push (PySem.W.instObj C s.heap.objs.size)).get? (s.heap.objs.size + 1) = some (PySem.W.instObj C s.heap.objs.size) := by
    have := Heap.get?_push_size (s.heap.push PySem.W.emptyDict) (o := PySem.W.instObj C s.heap.objs.size) rfl
    rwa [Heap.size_push] at this
  have t1 : PySem.W.Looks (model X.prog X.w) ((s.heap.push PySem.W.emptyDict).push (PySem.W.instObj C s.heap.objs.size)) (typeOf (.ref (s.heap.objs.size + 1))) (.ref C) := NwA.type_at ho rfl
  have t2 : PySem.W.Looks (model X.prog X.w) ((s.heap.push PySem.W.emptyDict).push (PySem.W.instObj C s.heap.objs.size)) (isInstance (.ref (s.heap.objs.size + 1)) (.type "object")) true := t1.andThen (PySem.W.looks_mroIn I2.kIn M.top)
  refine wpAny_call (make_map0 I.kIn M.makes M.init (fun self => PySem.W.Looks.of_pure (PySem.W.oi_bind _)) ?_)
  refine codeAny_call_builtin PySem.W.oi_plain PySem.W.entry_oi (@PySem.W.check_slot (model X.prog X.w) _ _ _ "object.__init__" "object" "__init__" (.ref (s.heap.objs.size + 1)) [] [] _ PySem.W.oi_kind PySem.W.oi_split t2 (NwA.oi_args_any _ [] []) ?_)
  rw [PySem.W.oi_run]
  exact wpAny_pure (And.intro rfl ⟨V.ref (s.heap.objs.size + 1), _, I2, rfl, hq⟩)
def tBare (C : Addr) : TE := fun σ H Q => ∀ x dx, H x = none → H dx = none → dx ≠ x → Q (.ref x) (upd (upd H dx (.own x)) x (.ins C dx []))
theorem pe_bare (M : Mb X.K C) (hg : Gl X x) (hm : X.mg x = some (.ref C)) (hdb : (x == ("__debug__" : Str)) = false := by decide) : PE X (.Call (.Name x p) [] [] pos) (tBare C) := by
  refine ⟨fun pins s σ H Q I h => ?_⟩
  refine wpAny_Call_Name_kw (ld_glob I hg hm ?_ hdb)
  exact PySem.W.callWith_K0 I.kIn M.kp (run_bare M I h)
end
section
variable {ι : Type} {X : ι → Cx} {P : Program} {w : World} {K : PySem.W.Frag} {mg : Str → Option Value} {base : Heap} {N : List Str} {sc : Scope} {fv : Str → Bool} {k : Nat} {ρ : Ro} {m : Mm} {Q : QV} {D : Ed} {a b e f : Expr} {pos p : Pos} {x y : MV}
theorem we_bare (F : Fam X P w K mg base N sc fv k) {C : Addr} {nm : Str} (M : Mb K C) (hm : mg nm = some (.ref C)) (q : Q (.r m.length) (m ++ [.ins C []])) (hg : sc.names.lookup nm = some .globalImplicit := by rfl)
    (hdb : (nm == ("__debug__" : Str)) = false := by decide) : We X K (.Call (.Name nm p) [] [] pos) ρ m Q := fun π G σ H R hk sk wv => by
  refine ⟨tBare C, fun j => pe_bare (by rw [F.cK]; exact M) (F.gl hg j) (by rw [F.cM]; exact hm) hdb, fun x dx hx hdx ne => ?_⟩
  have hx' : upd H dx (.own x) x = none := by rw [upd_ne (Ne.symm ne)]; exact hx
  have hk2 : Hk K π G (upd H dx (.own x)) m := hk.grow (same_new hdx)
  have hk3 : Hk K (π ++ [x]) G (upd (upd H dx (.own x)) x (.ins C dx [])) (m ++ [.ins C []]) := hk2.alloc hx' (show Rob K G (π ++ [x]) (.ins C dx []) (.ins C []) from ⟨dx, [], rfl, .nil⟩)
  have ex : Xt π G H π G (upd H dx (.own x)) := ⟨Same.refl _, ⟨[], by simp, by simp⟩, fun a u h _ => by rw [upd_ne (ne_of_none h hdx)]; exact h, fun a h => by
    by_cases q : a = dx
    · subst q; rw [upd_same]; simp
    · rw [upd_ne q]; exact h, fun _ _ _ _ _ h => h⟩
  have e3 : Xt π G H (π ++ [x]) G (upd (upd H dx (.own x)) x (.ins C dx [])) := ex.trans (Xt.alloc hx')
  have rx : Rv K G (π ++ [x]) (.ref x) (.r m.length) := by
    refine ⟨x, ?_, rfl⟩
    rw [List.getElem?_append_right (by rw [hk.len]; exact Nat.le_refl _)]
    simp [hk.len]
  exact wv _ (.r m.length) (π ++ [x]) G _ _ e3 hk3 rx q
theorem we_dnewT (q : Q (.r m.length) (m ++ [.dtp []])) : We X K (.Dict [] [] pos) ρ m Q := fun π G σ H R hk sk wv =>
  ⟨_, fun _ => pe_dnewT, fun pa hp => by
    have e3 : Xt π G H (π ++ [pa]) G (upd H pa (.dT [])) := Xt.alloc hp
    refine wv _ (.r m.length) _ _ _ _ e3 (hk.alloc hp (show Rob K G (π ++ [pa]) (.dT []) (.dtp []) from ⟨[], rfl, .nil⟩)) ⟨pa, ?_, rfl⟩ q
    rw [List.getElem?_append_right (by rw [hk.len]; exact Nat.le_refl _)]
    simp [hk.len]⟩
/-- a tuple that will be a key, in the store -/
theorem we_tupK {es : List Expr} {n : Nat} (h : Wr X K es ρ m fun xs m1 => ∃ ks : List Key, xs = (ks.map keyD).map .d ∧ ks.length ≤ 1000 ∧ Q (.r m1.length) (m1 ++ [.o (.tup (ks.map kV))])) : We X K (.Tuple es n pos) ρ m Q := fun π G σ H R hk sk wv =>
  ⟨_, fun j => pe_tup (taOf X es j), h π G σ H _ hk sk fun vs xs π1 G1 H1 m1 e1 hk1 rvs ⟨ks, ex, hl, q⟩ => by
    subst ex
    have rd := rvs_data rvs
    obtain rfl := data_keys rd
    refine ⟨by rw [List.length_map]; exact Nat.le_trans hl (by decide), fun pa hp => ?_⟩
    have e3 : Xt π1 G1 H1 (π1 ++ [pa]) G1 (upd H1 pa (.tup (ks.map kV))) := Xt.alloc hp
    refine wv.xt e1 _ (.r m1.length) _ _ _ _ e3 (hk1.alloc hp (show Rob K G1 (π1 ++ [pa]) (.tup (ks.map kV)) (.o (.tup (ks.map kV))) from rfl)) ⟨pa, ?_, rfl⟩ q
    rw [List.getElem?_append_right (by rw [hk1.len]; exact Nat.le_refl _)]
    simp [hk1.len]⟩
theorem o_inT (F : Fam X P w K mg base N sc fv k) {i j : Nat} {ks : List Key} {gs : List (List Key × MV)} (hi : m[i]? = some (.dtp gs)) (hj : m[j]? = some (.o (.tup (ks.map kV)))) (q : Q (.d (.bool (hasT gs ks))) m) : OpW X K (compareOp .In) (.r j) (.r i) m Q := fun π G H R u v hk ru rv wv => by
  obtain ⟨a, fs, rfl, ha, hf, rs⟩ := dtp_real hk rv hi
  obtain ⟨b, rfl, hb, hb2⟩ := o_real hk ru hj
  refine ⟨_, fun j => op_dinR (un_of (F.room j) (by decide)), a, _, rfl, DGet.t hf hb2, wv _ (.d (.bool _)) π G H m Xt.refl hk ?_ q⟩
  rw [valV_any, rkt_any rs]
  exact Da.bl _
theorem setw_dtp (F : Fam X P w K mg base N sc fv k) {i j : Nat} {ks : List Key} {gs : List (List Key × MV)} {Q : Mm → Prop} (hi : m[i]? = some (.dtp gs)) (hj : m[j]? = some (.o (.tup (ks.map kV)))) (hn : hasT gs ks = false) (hl : gs.length < 100000) (q : Q (m.set i (.dtp (gs ++ [(ks, x)])))) : SetW X K (.r i) (.r j) x m Q := fun π G H R ov iv v hk ro ri rv wx => by
  obtain ⟨a, fs, rfl, ha, hf, rs⟩ := dtp_real hk ro hi
  obtain ⟨b, rfl, hb, hb2⟩ := o_real hk ri hj
  have ep : putK fs ks v = fs ++ [(ks, v)] := by
    unfold putK
    rw [rkt_any rs, hn, if_neg Bool.false_ne_true]
  refine ⟨_, fun j => set_dict (un_of (F.room j) (by decide)), a, _, rfl, DPut.t hf hb2 (by rw [Paired.length rs]; exact Nat.lt_of_lt_of_le hl (by decide)), wx π G _ _ (Xt.write (List.mem_of_getElem? ha)) (hk.write ha ?_) q⟩
  rw [ep]
  exact ⟨_, rfl, Paired.snoc rs ⟨rfl, rv⟩⟩
end
end Wn
set_option Elab.async false
set_option linter.all false
set_option maxRecDepth 100000
set_option maxHeartbeats 2000000
set_option autoImplicit false
namespace Wn
open PySem L2 PyProof.Rows
/-! ### sets of tuples of ints, made and counted or sorted at once -/
def rLenSetT (K : PySem.W.Frag) (P : Program) (w : World) : List V → Hp → VK → Prop := fun vs H Q => ∃ (a : Addr) (L : List (Addr × List Int)), vs = [V.ref a] ∧ H a = some (SetTO P w a L) ∧ (∀ p ∈ L, SqT K H p.1 (p.2.map V.int)) ∧ ((L.map (·.2)).Nodup → Q (.int (L.length : Nat)) H)
theorem cr_lenSetT {X : Cx} : CallR X (.builtin "len") (rLenSetT X.K X.prog X.w) := by
  intro pins s σ H vs us Q I r h
  obtain ⟨a, L, rfl, ha, hk, q⟩ := h
  have R0 : SetT0 X.prog X.w s.heap a L := (I.hok a _ ha).1
  obtain ⟨es, ep, t, R⟩ := R0.full fun p hp => I.isT (hk p hp)
  rw [Vals.ref1 r]
  obtain ⟨o, ho, hex, hd⟩ := R.ob
  have sz := R.size
  have fw := R.few
  refine PySem.call_len_set ho hex hd R.fits (by omega) ⟨.int (L.length : Nat), H, I.tok _, ⟨_, by rw [sz]⟩, q R.nd⟩
def tsM (ts : List (List Int)) : List MV := ts.map fun ns => .d (.tuple (ns.map .int))
section
variable {K : PySem.W.Frag} {π : List Addr} {G H : Hp}
theorem da_ints : ∀ (ns : List Int), DaAll K G (ns.map V.int) (ns.map PyData.int)
  | [] => .nil
  | n :: ns => .cons (.int n) (da_ints ns)
theorem ints_da : ∀ {ns : List Int} {vs : List V}, DaAll K G vs (ns.map PyData.int) → vs = ns.map V.int
  | [], _, h => by cases h; rfl
  | n :: ns, _, h => by
    cases h with
    | cons h1 h2 => rw [ints_da h2, Da.intI h1]; rfl
theorem pair_keys : ∀ {ts : List (List Int)} {ws : List V}, Rvs K G π ws (tsM ts) → ∃ ks : List (Addr × List Int), ws = ks.map (fun p => V.ref p.1) ∧ ks.map (·.2) = ts ∧ ∀ p ∈ ks, SqT K G p.1 (p.2.map V.int)
  | [], _, h => by cases h; exact ⟨[], rfl, rfl, by simp⟩
  | ns :: ts, _, h => by
    cases h with
    | cons r rs =>
      obtain ⟨ks, e1, e2, e3⟩ := pair_keys rs
      obtain ⟨t, xs, rfl, ht, dt⟩ := Da.tupI r
      obtain rfl := ints_da dt
      refine ⟨(t, ns) :: ks, by rw [e1]; rfl, by rw [← e2]; rfl, fun p hp => ?_⟩
      rcases List.mem_cons.mp hp with rfl | hp
      · exact ht
      · exact e3 p hp
theorem keys_pair : ∀ (ks : List (Addr × List Int)), (∀ p ∈ ks, SqT K G p.1 (p.2.map V.int)) → Rvs K G π (ks.map fun p => V.ref p.1) (tsM (ks.map (·.2)))
  | [], _ => .nil
  | p :: ks, h => .cons (show Da K G (.ref p.1) (.tuple (p.2.map PyData.int)) from Da.tup (h p List.mem_cons_self) (da_ints p.2)) (keys_pair ks fun q hq => h q (List.mem_cons_of_mem _ hq))
end
theorem bo_set : bootBuiltins "set" = some (.type "set") := by decide +kernel
section
variable {ι : Type} {X : ι → Cx} {P : Program} {w : World} {K : PySem.W.Frag} {mg : Str → Option Value} {base : Heap} {N : List Str} {sc : Scope} {fv : Str → Bool} {k : Nat} {ρ : Ro} {m : Mm} {Q : QV} {D : Ed} {a b e f : Expr} {pos p : Pos} {x y : MV}
theorem we_lenSet (F : Fam X P w K mg base N sc fv k) (B : Bt mg) (hms : mg "set" = none) {p2 p3 : Pos} (h : We X K e ρ m fun x m1 => ∃ ts : List (List Int), lstOf m1 x = some (tsM ts) ∧ ts.length < 64 ∧ ∀ us : List (List Int), us.Nodup → (∀ t, t ∈ us ↔ t ∈ ts) → Q (.d (.int (us.length : Nat))) m1)
    (hg : sc.names.lookup ("len" : Str) = some .globalImplicit := by rfl) (hg2 : sc.names.lookup ("set" : Str) = some .globalImplicit := by rfl) (he : ∀ env : Env, starEach [e] env = (false, eval e env) :: starEach [] env := by intro _; rfl) (hpl : ∀ env : Env, (backTo p3 (starEach [] env)).any (·.1) = false := by intro _; rfl)
    (he2 : ∀ env : Env, starEach [.Call (.Name "set" p2) [e] [] p3] env = (false, eval (.Call (.Name "set" p2) [e] [] p3) env) :: starEach [] env := by intro _; rfl) (hpl2 : ∀ env : Env, (backTo pos (starEach [] env)).any (·.1) = false := by intro _; rfl) :
    We X K (.Call (.Name "len" p) [.Call (.Name "set" p2) [e] [] p3] [] pos) ρ m Q := fun π G σ H R hk sk wv => by
  refine ⟨tCB (rLenSetT K P w) (tCons (tCB (rSetOfT K P w) (tCons (TeOf X e) tNil)) tNil), fun j => ?_, h π G σ H _ hk sk fun v x π1 G1 H1 m1 e1 hk1 rv ⟨ts, hx, hf, q⟩ => ?_⟩
  · have h1 := pe_callTy (p := p2) (pos := p3) (cr_setOfT (F.calm j) (un_of (F.room j) (by decide))) (F.gl hg2 j) (by rw [F.cM]; exact hms) bo_set (pa_cons (teOf X e j) pa_nil (he _)) (by decide) (by decide) (he _) (hpl _)
    have h2 := pe_callB (p := p) (pos := pos) cr_lenSetT (F.gl hg j) (by rw [F.cM]; exact B.len) bo_len (pa_cons h1 pa_nil (he2 _)) (by decide) (by decide) (he2 _) (hpl2 _)
    rw [F.cK, F.cP, F.cW] at h2
    exact h2
  · obtain ⟨a, ws, rfl, hw, rw'⟩ := lst_real hk1 rv hx
    obtain ⟨ks, rfl, rfl, hks⟩ := pair_keys rw'
    rw [List.length_map] at hf
    refine ⟨a, ks, rfl, SqL.of hw, fun p hp => Same.tupq hk1.sub (hks p hp), hf, fun s L hs h1 h2 => ?_⟩
    have e2 : Xt π1 G1 H1 π1 G1 (upd H1 s (SetTO P w s L)) := Xt.refl.other hs
    have hk2 : Hk K π1 G1 (upd H1 s (SetTO P w s L)) m1 := hk1.other (hk1.nin hs) (hk1.sub.free hs)
    refine ⟨s, L, rfl, upd_same, fun p hp => Same.tupq hk2.sub (hks p (h1 p hp)), fun nd => ?_⟩
    have := wv (.int (L.length : Nat)) (.d (.int (L.length : Nat))) π1 G1 _ m1 (e1.trans e2) hk2 (Da.int _)
    refine this ?_
    have q' := q (L.map (·.2)) nd fun t => ⟨fun ht => ?_, fun ht => ?_⟩
    · rw [List.length_map] at q'; exact q'
    · obtain ⟨p, hp, rfl⟩ := List.mem_map.mp ht
      exact List.mem_map.mpr ⟨p, h1 p hp, rfl⟩
    · obtain ⟨p, hp, rfl⟩ := List.mem_map.mp ht
      exact h2 p hp
theorem we_sortedSet (F : Fam X P w K mg base N sc fv k) (B : Bt mg) (hms : mg "set" = none) {p2 p3 : Pos} {d : Nat} {Bn : Int} (h : We X K e ρ m fun x m1 => ∃ ts : List (List Int), lstOf m1 x = some (tsM ts) ∧ ts.length < 64 ∧ 1 ≤ d ∧ (∀ t ∈ ts, t.length = d ∧ TS.Bd Bn t) ∧
      ∀ us : List (List Int), us.Nodup → (∀ t, t ∈ us ↔ t ∈ ts) → us.Pairwise (fun s t => TS.code Bn s ≤ TS.code Bn t) → NewL (tsM us) m1 Q)
    (hg : sc.names.lookup ("sorted" : Str) = some .globalImplicit := by rfl) (hg2 : sc.names.lookup ("set" : Str) = some .globalImplicit := by rfl) (he : ∀ env : Env, starEach [e] env = (false, eval e env) :: starEach [] env := by intro _; rfl) (hpl : ∀ env : Env, (backTo p3 (starEach [] env)).any (·.1) = false := by intro _; rfl)
    (he2 : ∀ env : Env, starEach [.Call (.Name "set" p2) [e] [] p3] env = (false, eval (.Call (.Name "set" p2) [e] [] p3) env) :: starEach [] env := by intro _; rfl) (hpl2 : ∀ env : Env, (backTo pos (starEach [] env)).any (·.1) = false := by intro _; rfl) :
    We X K (.Call (.Name "sorted" p) [.Call (.Name "set" p2) [e] [] p3] [] pos) ρ m Q := fun π G σ H R hk sk wv => by
  refine ⟨tCB (rSortedT K P w) (tCons (tCB (rSetOfT K P w) (tCons (TeOf X e) tNil)) tNil), fun j => ?_, h π G σ H _ hk sk fun v x π1 G1 H1 m1 e1 hk1 rv ⟨ts, hx, hf, hd, hB, q⟩ => ?_⟩
  · have h1 := pe_callTy (p := p2) (pos := p3) (cr_setOfT (F.calm j) (un_of (F.room j) (by decide))) (F.gl hg2 j) (by rw [F.cM]; exact hms) bo_set (pa_cons (teOf X e j) pa_nil (he _)) (by decide) (by decide) (he _) (hpl _)
    have h2 := pe_callB (p := p) (pos := pos) (cr_sortedT (F.calm j)) (F.gl hg j) (by rw [F.cM]; exact B.sorted) bo_sorted (pa_cons h1 pa_nil (he2 _)) (by decide) (by decide) (he2 _) (hpl2 _)
    rw [F.cK, F.cP, F.cW] at h2
    exact h2
  · obtain ⟨a, ws, rfl, hw, rw'⟩ := lst_real hk1 rv hx
    obtain ⟨ks, rfl, rfl, hks⟩ := pair_keys rw'
    rw [List.length_map] at hf
    refine ⟨a, ks, rfl, SqL.of hw, fun p hp => Same.tupq hk1.sub (hks p hp), hf, fun s L hs h1 h2 => ?_⟩
    have e2 : Xt π1 G1 H1 π1 G1 (upd H1 s (SetTO P w s L)) := Xt.refl.other hs
    have hk2 : Hk K π1 G1 (upd H1 s (SetTO P w s L)) m1 := hk1.other (hk1.nin hs) (hk1.sub.free hs)
    refine ⟨s, L, d, Bn, rfl, upd_same, fun p hp => Same.tupq hk2.sub (hks p (h1 p hp)), hd, fun p hp => hB _ (List.mem_map.mpr ⟨p, h1 p hp, rfl⟩), fun L' pa pm nd fw pw hp => ?_⟩
    refine newl hk2 hp (keys_pair L' fun p hp => hks p (h1 p (pm.mem_iff.mp hp))) (q (L'.map (·.2)) nd (fun t => ⟨fun ht => ?_, fun ht => ?_⟩) ?_) (wv.xt (e1.trans e2))
    · obtain ⟨p, hp, rfl⟩ := List.mem_map.mp ht
      exact List.mem_map.mpr ⟨p, h1 p (pm.mem_iff.mp hp), rfl⟩
    · obtain ⟨p, hp, rfl⟩ := List.mem_map.mp ht
      obtain ⟨p', hp', e'⟩ := List.mem_map.mp (h2 p hp)
      exact List.mem_map.mpr ⟨p', pm.mem_iff.mpr hp', e'⟩
    · rw [List.pairwise_map]; exact pw
end
end Wn
set_option Elab.async false
set_option linter.all false
set_option maxRecDepth 100000
set_option maxHeartbeats 2000000
set_option autoImplicit false
namespace Wn
open PySem L2 PyProof.Rows
/-! ### a tuple of two lists of the store -/
section
variable {ι : Type} {X : ι → Cx} {P : Program} {w : World} {K : PySem.W.Frag} {mg : Str → Option Value} {base : Heap} {N : List Str} {sc : Scope} {fv : Str → Bool} {k : Nat} {ρ : Ro} {m : Mm} {Q : QV} {D : Ed} {a b e f : Expr} {pos p : Pos} {x y : MV}
theorem we_pairR {es : List Expr} {n : Nat} (h : Wr X K es ρ m fun xs m1 => ∃ i j, xs = [.r i, .r j] ∧ Q (.pr i j) m1) : We X K (.Tuple es n pos) ρ m Q := fun π G σ H R hk sk wv =>
  ⟨_, fun j => pe_tup (taOf X es j), h π G σ H _ hk sk fun vs xs π1 G1 H1 m1 e1 hk1 rvs ⟨i, j, ex, q⟩ => by
    subst ex
    cases rvs with
    | cons r1 rs =>
      cases rs with
      | cons r2 rs =>
        cases rs
        obtain ⟨b, hb, rfl⟩ := r1
        obtain ⟨c, hc, rfl⟩ := r2
        exact ⟨by simp [PySem.sizeLine], fun p hp => wv.xt e1 _ (.pr i j) π1 (upd G1 p (.tup [.ref b, .ref c])) _ m1 (Xt.new hp (hk1.sub.free hp)) (hk1.new hp) ⟨p, b, c, rfl, SqT.of upd_same, hb, hc⟩ q⟩⟩
theorem wg_pair (F : Fam X P w K mg base N sc fv k) {vs : Nat → Prop} {es : List Expr} {n i j : Nat} {Q : Ro → Mm → Prop} (h : Wgs X K vs es [.r i, .r j] ρ m Q) (hn : ∀ env : Env, (assignEach es env).length = 2 := by intro _; rfl) (hst : ∀ env : Env, (assignEach es env).findIdx? (·.1) = none := by intro _; rfl) :
    Wg X K vs (.Tuple es n pos) (.pr i j) ρ m Q := fun π G σ H R v hk sk rv wx => by
  obtain ⟨t, b, c, rfl, ht, hb, hc⟩ := rv
  refine ⟨gTup K 2 (TgsOf X es), fun j => F.cK j ▸ pg_tup (F.calm j) (tgsOf X es j) (hn _) (hst _), t, _, rfl, Same.tupq hk.sub ht, rfl, ?_⟩
  exact h π G σ H R _ hk sk (.cons ⟨b, hb, rfl⟩ (.cons ⟨c, hc, rfl⟩ .nil)) wx
end
end Wn
set_option Elab.async false
set_option linter.all false
set_option maxRecDepth 100000
set_option maxHeartbeats 2000000
set_option autoImplicit false
namespace Wn
open PySem L2 PyProof.Rows
theorem perm_map_ex {α β : Type} {f : α → β} {ys zs : List β} (h : ys.Perm zs) : ∀ {l : List α}, zs = l.map f → ∃ l' : List α, l'.Perm l ∧ ys = l'.map f := by
  induction h with
  | nil => intro l e; exact ⟨l, .refl _, e⟩
  | cons x h ih =>
    intro l e
    cases l with
    | nil => cases e
    | cons a l =>
      rw [List.map_cons] at e
      injection e with e1 e2
      obtain ⟨l', p, q⟩ := ih e2
      exact ⟨a :: l', p.cons a, by rw [q, e1]; rfl⟩
  | swap x y t =>
    intro l e
    match l, e with
    | a :: b :: l, e =>
      rw [List.map_cons, List.map_cons] at e
      injection e with e1 e2
      injection e2 with e2 e3
      exact ⟨b :: a :: l, List.Perm.swap a b l, by rw [List.map_cons, List.map_cons, e1, e2, e3]⟩
  | trans h1 h2 ih1 ih2 =>
    intro l e
    obtain ⟨l', p, q⟩ := ih2 e
    obtain ⟨l'', p', q'⟩ := ih1 q
    exact ⟨l'', p'.trans p, q'⟩
def nsM (ks : List Int) : List MV := ks.map fun i => .d (.int i)
section
variable {ι : Type} {X : ι → Cx} {P : Program} {w : World} {K : PySem.W.Frag} {mg : Str → Option Value} {base : Heap} {N : List Str} {sc : Scope} {fv : Str → Bool} {k : Nat} {ρ : Ro} {m : Mm} {Q : QV} {D : Ed} {a b e f : Expr} {pos p : Pos} {x y : MV}
theorem we_lenSetI (F : Fam X P w K mg base N sc fv k) (B : Bt mg) (hms : mg "set" = none) {p2 p3 : Pos} (h : We X K e ρ m fun x m1 => ∃ ks : List Int, lstOf m1 x = some (nsM ks) ∧ ks.length < 64 ∧ ks.Nodup ∧ Q (.d (.int (ks.length : Nat))) m1)
    (hg : sc.names.lookup ("len" : Str) = some .globalImplicit := by rfl) (hg2 : sc.names.lookup ("set" : Str) = some .globalImplicit := by rfl) (he : ∀ env : Env, starEach [e] env = (false, eval e env) :: starEach [] env := by intro _; rfl) :
    We X K (.Call (.Name "len" p) [.Call (.Name "set" p2) [e] [] p3] [] pos) ρ m Q := fun π G σ H R hk sk wv => by
  refine ⟨tLenSetI K (TeOf X e), fun j => F.cK j ▸ pe_lenSetI (F.calm j) (F.gl hg j) (by rw [F.cM]; exact B.len) (F.gl hg2 j) (by rw [F.cM]; exact hms) (teOf X e j) (he _), h π G σ H _ hk sk fun v x π1 G1 H1 m1 e1 hk1 rv ⟨ks, hx, hf, nd, q⟩ => ?_⟩
  obtain ⟨a, ws, rfl, hw, rw'⟩ := lst_real hk1 rv hx
  have em : nsM ks = (ks.map PyData.int).map .d := by unfold nsM; rw [List.map_map]; rfl
  rw [em] at rw'
  obtain rfl := ints_da (rvs_data rw')
  exact ⟨a, ks, rfl, SqL.of hw, hf, nd, wv _ (.d (.int (ks.length : Nat))) π1 G1 H1 m1 e1 hk1 (Da.int _) q⟩
theorem c_sortedT (F : Fam X P w K mg base N sc fv k) {d : Nat} {Bn : Int} {ts : List (List Int)} (hx : lstOf m x = some (tsM ts)) (hl : ts.length < 64) (hd : 1 ≤ d) (hB : ∀ t ∈ ts, t.length = d ∧ TS.Bd Bn t)
    (q : ∀ us : List (List Int), us.Perm ts → us.Pairwise (fun s t => TS.code Bn s ≤ TS.code Bn t) → NewL (tsM us) m Q) : CaW X K (.builtin "sorted") [x] m Q := fun π G H R vs hk rs wv => by
  obtain ⟨v, rfl, rv⟩ := rvs1 rs
  obtain ⟨a, ws, rfl, hw, rw'⟩ := lst_real hk rv hx
  obtain ⟨ks, rfl, rfl, hks⟩ := pair_keys rw'
  rw [List.length_map] at hl
  refine ⟨rSortU K d Bn, fun j => F.cK j ▸ cr_sortT hd, a, _, rfl, SqL.of hw, by rw [List.length_map]; exact hl, fun y hy => ?_, fun ys pa pm pw hp => ?_⟩
  · obtain ⟨z, hz, rfl⟩ := List.mem_map.mp hy
    exact ⟨z.2, ⟨z.1, rfl, Same.tupq hk.sub (hks z hz)⟩, hB _ (List.mem_map.mpr ⟨z, hz, rfl⟩)⟩
  · obtain ⟨ks', p', rfl⟩ := perm_map_ex pm rfl
    refine newl hk hp (keys_pair ks' fun z hz => hks z (p'.mem_iff.mp hz)) (q (ks'.map (·.2)) (p'.map _) ?_) wv
    rw [List.pairwise_map] at pw ⊢
    refine pw.imp_of_mem fun {y z} hy hz h => ?_
    exact h _ _ ⟨y.1, rfl, Same.tupq hk.sub (hks y (p'.mem_iff.mp hy))⟩ ⟨z.1, rfl, Same.tupq hk.sub (hks z (p'.mem_iff.mp hz))⟩
theorem b_sortedT (F : Fam X P w K mg base N sc fv k) (B : Bt mg) {d : Nat} {Bn : Int} (h : We X K e ρ m fun x m1 => ∃ ts : List (List Int), lstOf m1 x = some (tsM ts) ∧ ts.length < 64 ∧ 1 ≤ d ∧ (∀ t ∈ ts, t.length = d ∧ TS.Bd Bn t) ∧ ∀ us : List (List Int), us.Perm ts → us.Pairwise (fun s t => TS.code Bn s ≤ TS.code Bn t) → NewL (tsM us) m1 Q)
    (hg : sc.names.lookup ("sorted" : Str) = some .globalImplicit := by rfl) (he : ∀ env : Env, starEach [e] env = (false, eval e env) :: starEach [] env := by intro _; rfl) (hpl : ∀ env : Env, (backTo pos (starEach [] env)).any (·.1) = false := by intro _; rfl) :
    We X K (.Call (.Name "sorted" p) [e] [] pos) ρ m Q := we_callB F (wr_cons (h.mono fun x m1 ⟨ts, hx, h1, h2, h3, q⟩ => wr_nil (c_sortedT F hx h1 h2 h3 q)) he) B.sorted bo_sorted hg (by decide) (by decide) he hpl
end
end Wn
set_option Elab.async false
set_option linter.all false
set_option maxRecDepth 100000
set_option maxHeartbeats 2000000
set_option autoImplicit false
namespace Wn
open PySem L2 PyProof.Rows
/-! ### dicts by tuples of tuples, numbers, texts: what HandS reads -/
/-- the tuple at b is the key kk -/
def NKey (K : PySem.W.Frag) (H : Hp) (kk : NestedKey) (b : Addr) : Prop := kk.depth ≤ 8 ∧ Da K H (.ref b) kk.data
abbrev Tri : List (NestedKey × Addr × V) → List (NestedKey × Addr × Value) → Prop := Paired fun (p : NestedKey × Addr × V) (q : NestedKey × Addr × Value) => p.1 = q.1 ∧ p.2.1 = q.2.1 ∧ RelV p.2.2 q.2.2
def valF (fs : List (NestedKey × Addr × V)) (kk : NestedKey) : Option V := (fs.find? fun p => decide (p.1 = kk)).map (·.2.2)
def putF (fs : List (NestedKey × Addr × V)) (kk : NestedKey) (b : Addr) (v : V) : List (NestedKey × Addr × V) :=
  if (valF fs kk).isSome = true then fs.map (fun p => if p.1 = kk then (p.1, p.2.1, v) else p) else fs ++ [(kk, b, v)]
def dropF (fs : List (NestedKey × Addr × V)) (kk : NestedKey) : List (NestedKey × Addr × V) := fs.filter fun p => decide (p.1 ≠ kk)
theorem tri_val {kk : NestedKey} : ∀ {fs : List (NestedKey × Addr × V)} {us : List (NestedKey × Addr × Value)}, Tri fs us → RelO (valF fs kk) ((atKey us kk).map (·.2))
  | _, _, .nil => True.intro
  | _, _, .cons (a := p) (b := q) (l₁ := ps) (l₂ := qs) h t => by
    obtain ⟨h1, _, h3⟩ := h
    by_cases e : p.1 = kk
    · have e' : q.1 = kk := h1.symm.trans e
      have b1 : atKey (q :: qs) kk = some q.2 := by simp [atKey, List.find?_cons, e']
      have b2 : valF (p :: ps) kk = some p.2.2 := by simp [valF, List.find?_cons, e]
      rw [b1, b2]; exact h3
    · have e' : ¬ q.1 = kk := fun z => e (h1.trans z)
      have b1 : atKey (q :: qs) kk = atKey qs kk := by simp [atKey, List.find?_cons, e']
      have b2 : valF (p :: ps) kk = valF ps kk := by simp [valF, List.find?_cons, e]
      rw [b1, b2]; exact tri_val t
theorem tri_some {kk : NestedKey} {fs : List (NestedKey × Addr × V)} {us : List (NestedKey × Addr × Value)} (t : Tri fs us) : (valF fs kk).isSome = (atKey us kk).isSome := by
  rw [(tri_val (kk := kk) t).isSome_eq, Option.isSome_map]
theorem tri_repl {kk : NestedKey} {v : V} {u : Value} (r : RelV v u) : ∀ {fs : List (NestedKey × Addr × V)} {us : List (NestedKey × Addr × Value)}, Tri fs us → Tri (fs.map fun p => if p.1 = kk then (p.1, p.2.1, v) else p) (us.map (putAt kk u))
  | _, _, .nil => .nil
  | _, _, .cons (a := p) (b := q) h t => by
    rw [List.map_cons, List.map_cons]
    refine .cons ?_ (tri_repl r t)
    obtain ⟨h1, h2, h3⟩ := h
    unfold putAt
    by_cases e : p.1 = kk
    · rw [if_pos e, if_pos (h1.symm.trans e)]; exact ⟨h1, h2, r⟩
    · rw [if_neg e, if_neg (fun z => e (h1.trans z))]; exact ⟨h1, h2, h3⟩
theorem tri_put {kk : NestedKey} {b : Addr} {v : V} {u : Value} (r : RelV v u) {fs : List (NestedKey × Addr × V)} {us : List (NestedKey × Addr × Value)} (t : Tri fs us) : Tri (putF fs kk b v) (storedH us kk b u) := by
  unfold putF storedH
  rw [tri_some t]
  by_cases q : (atKey us kk).isSome = true
  · rw [if_pos q, if_pos q]; exact tri_repl r t
  · rw [if_neg q, if_neg q]; exact Paired.snoc t ⟨rfl, rfl, r⟩
theorem tri_drop {kk : NestedKey} : ∀ {fs : List (NestedKey × Addr × V)} {us : List (NestedKey × Addr × Value)}, Tri fs us → Tri (dropF fs kk) (withoutH us kk)
  | _, _, .nil => .nil
  | _, _, .cons (a := p) (b := q) h t => by
    have ih := tri_drop (kk := kk) t
    unfold dropF withoutH at ih ⊢
    rw [List.filter_cons, List.filter_cons]
    by_cases e : p.1 = kk
    · rw [if_neg (by simp [e]), if_neg (by simp [h.1.symm.trans e])]; exact ih
    · have e' : ¬ q.1 = kk := fun z => e (h.1.trans z)
      rw [if_pos (by simp [e]), if_pos (by simp [e'])]; exact .cons h ih
theorem putF_len (fs : List (NestedKey × Addr × V)) (kk : NestedKey) (b : Addr) (v : V) : (putF fs kk b v).length ≤ fs.length + 1 := by
  unfold putF
  split
  · rw [List.length_map]; omega
  · rw [List.length_append]; simp
theorem dropF_len (fs : List (NestedKey × Addr × V)) (kk : NestedKey) : (dropF fs kk).length ≤ fs.length := List.length_filter_le _ _
section
variable {X : Cx} {pins : List (Addr × Obj)} {σ : L2.St} {H : Hp} {s : Shared} {a d b : Addr} {kk : NestedKey} {fs : List (NestedKey × Addr × V)}
mutual
theorem key_is (I : Inv X pins σ H s) : ∀ (k : NestedKey) (v : V) (u : Value), Da X.K H v k.data → RelV v u → NestedIs s.heap k u
  | .none, v, u, h, r => by
    rw [NestedKey.data] at h
    cases h
    cases (show u = Value.none from r)
    exact .none
  | .num i, v, u, h, r => by
    rw [NestedKey.data] at h
    cases h
    obtain ⟨t, e⟩ := (show ∃ t, u = Value.int i t from r)
    rw [e]; exact .int i t
  | .text x, v, u, h, r => by
    rw [NestedKey.data] at h
    cases h
    obtain ⟨t, e⟩ := (show ∃ t, u = Value.str x t from r)
    rw [e]; exact .text x t
  | .tup ks, v, u, h, r => by
    rw [NestedKey.data] at h
    obtain ⟨t, xs, e, ht, dt⟩ := Da.tupI h
    subst e
    cases (show u = Value.ref t from r)
    obtain ⟨its, rs, ⟨o, ho, hc, n, hd⟩, _⟩ := I.tuple ht
    exact .tup ho hc hd (by rw [List.toList_toArray]; exact keys_are I ks xs its dt rs)
theorem keys_are (I : Inv X pins σ H s) : ∀ (ks : List NestedKey) (vs : List V) (us : List Value), DaAll X.K H vs (NestedKey.datas ks) → Vals vs us → NestedAll s.heap ks us
  | [], vs, us, h, r => by
    rw [NestedKey.datas] at h
    cases h; cases r
    exact .nil
  | k :: ks, vs, us, h, r => by
    rw [NestedKey.datas] at h
    cases h with
    | cons h1 h2 =>
      cases r with
      | cons r1 r2 => exact .cons (key_is I k _ _ h1 r1) (keys_are I ks _ _ h2 r2)
end
theorem nkey_is (I : Inv X pins σ H s) (h : NKey X.K H kk b) : (nestedKind X.prog X.w).is s.heap kk b := ⟨key_is I kk (.ref b) (.ref b) h.2 rfl, h.1⟩
/-- the dict told is the one that stands there -/
theorem dnb_at {w : World} {P : Program} {h : Heap} (ok : ObjOk P w H h a (DnO w d fs)) : d = a := by
  apply Classical.byContradiction
  intro ne
  obtain ⟨x, _, st⟩ := ok
  obtain ⟨_, _, o, es, ep, us, ho, _, hd, _⟩ := id x
  have lt : d < h.objs.size := Heap.lt_size ho
  have h2 : DnB w d fs { h with objs := h.objs.setIfInBounds d ⟨.none, none, .fields #[], #[]⟩ } := st h _ x fun q hq => by
    rw [← hq]
    unfold Heap.get?
    rw [Array.getElem?_setIfInBounds_ne ne]
  obtain ⟨_, _, o2, es2, ep2, us2, ho2, _, hd2, _⟩ := h2
  have e : ({ h with objs := h.objs.setIfInBounds d ⟨.none, none, .fields #[], #[]⟩ } : Heap).get? d = some ⟨.none, none, .fields #[], #[]⟩ := by
    unfold Heap.get?
    rw [Array.getElem?_setIfInBounds_self_of_lt lt]
  rw [e] at ho2
  cases ho2
  cases hd2
theorem dn_read (I : Inv X pins σ H s) (h : Rd H a (DnO X.w d fs)) (hk : ∀ p ∈ fs, NKey X.K H p.1 p.2.1) : (a == sysModules) = false ∧ fs.length ≤ sizeLine ∧ ∃ us, Tri fs us ∧ s.heap.DictOfH (nestedKind X.prog X.w) a us := by
  have ok := h.ok I.hok
  obtain rfl := dnb_at ok
  obtain ⟨⟨h1, h2, o, es, ep, us, ho, hx, hd, t, he, nd⟩, _, _⟩ := ok
  refine ⟨h1, h2, us, t, o, es, ep, ho, hx, hd, he, fun x hx' => ?_, nd⟩
  obtain ⟨i, hi, ei⟩ := List.mem_iff_getElem.mp hx'
  obtain ⟨p, hp, e1, e2, _⟩ := paired_getR t (show us[i]? = some x by rw [List.getElem?_eq_getElem hi, ei])
  have := nkey_is I (hk p (List.mem_of_getElem? hp))
  rw [e1, e2] at this
  exact this
theorem dn_ok {P : Program} {w : World} {h : Heap} {us : List (NestedKey × Addr × Value)} (h1 : (a == sysModules) = false) (h2 : fs.length ≤ sizeLine) (t : Tri fs us) (dd : h.DictOfH (nestedKind P w) a us) : ObjOk P w H h a (DnO w a fs) := by
  obtain ⟨o, es, ep, ho, hx, hd, he, _, nd⟩ := dd
  exact ⟨⟨h1, h2, o, es, ep, us, ho, hx, hd, t, he, nd⟩, ⟨o, ho⟩, fun g1 g2 ⟨b1, b2, o', es', ep', us', q1, q⟩ k => ⟨b1, b2, o', es', ep', us', k o' q1, q⟩⟩
theorem room8 {A : Around} (hu : A.units + 20 < cLine) : A.in1.units + 8 < cLine := by rw [Around.in1_units]; omega
theorem dn_write {h' : Heap} {t' : Nat} {us' : List (NestedKey × Addr × Value)} {fs' : List (NestedKey × Addr × V)} (I : Inv X pins σ H s) (h : H a = some (DnO X.w d fs)) (h1 : (a == sysModules) = false) (h2 : fs'.length ≤ sizeLine) (hs : Heap.SameBut a s.heap h')
    (t : Tri fs' us') (dd : h'.DictOfH (nestedKind X.prog X.w) a us') : Inv X pins σ (upd H a (DnO X.w a fs')) { s with heap := h', toks := t' } := by
  refine d_write I (by rw [h]; exact True.intro) hs ?_ (dn_ok h1 h2 t dd)
  obtain ⟨o, _, _, ho, _⟩ := dd
  exact ⟨o, ho⟩
end
/-- d reads as a dict by tuples -/
def DnR (K : PySem.W.Frag) (w : World) (H : Hp) (a : Addr) (fs : List (NestedKey × Addr × V)) : Prop := (∃ d, Rd H a (DnO w d fs)) ∧ ∀ p ∈ fs, NKey K H p.1 p.2.1
def DnW (K : PySem.W.Frag) (w : World) (H : Hp) (a : Addr) (fs : List (NestedKey × Addr × V)) : Prop := (∃ d, H a = some (DnO w d fs)) ∧ ∀ p ∈ fs, NKey K H p.1 p.2.1
section
variable {X : Cx} {pos : Pos}
theorem pe_dnewN : PE X (.Dict [] [] pos) (fun _ H Q => ∀ p, H p = none → Q (.ref p) (upd H p (DnO X.w p []))) := ⟨fun pins s σ H Q I h => by
  have hb := I.big
  refine wpAny_Dict_empty ⟨.ref s.heap.objs.size, _, I.laid (a := s.heap.objs.size) (o := DnO X.w s.heap.objs.size []) (t' := s.toks) (fun _ _ q => Heap.get?_push_of_some _ q) (Nat.le_refl _) ?_, rfl, h _ (I.hok.fresh (Nat.le_refl _))⟩
  exact dn_ok (us := []) (beq_eq_false_iff_ne.mpr (Ne.symm (Nat.ne_of_lt hb))) (Nat.zero_le _) .nil (Heap.DictOfH.new s.heap)⟩
def rInN (K : PySem.W.Frag) (w : World) (neg : Bool) : R2 := fun x y H Q => ∃ a b kk fs, y = .ref a ∧ x = .ref b ∧ DnR K w H a fs ∧ NKey K H kk b ∧ Q (.bl (if neg then !(valF fs kk).isSome else (valF fs kk).isSome)) H
theorem op_inN (hu : X.A.units + 20 < cLine) : OpR X (compareOp .In) (rInN X.K X.w false) := by
  intro pins s σ H x y v u Q I rx ry h
  obtain ⟨a, b, kk, fs, rfl, rfl, ⟨⟨d, hd⟩, hk⟩, hb, q⟩ := h
  obtain rfl : u = Value.ref a := ry
  obtain rfl : v = Value.ref b := rx
  obtain ⟨h1, h2, us, t, dd⟩ := dn_read I hd hk
  refine wpAny_in_heap (room8 hu) (nkey_is I hb) h1 dd ?_
  rw [← tri_some t]
  exact ⟨.bl (valF fs kk).isSome, H, I.tok _, rfl, q⟩
theorem op_notInN (hu : X.A.units + 20 < cLine) : OpR X (compareOp .NotIn) (rInN X.K X.w true) := by
  intro pins s σ H x y v u Q I rx ry h
  obtain ⟨a, b, kk, fs, rfl, rfl, ⟨⟨d, hd⟩, hk⟩, hb, q⟩ := h
  obtain rfl : u = Value.ref a := ry
  obtain rfl : v = Value.ref b := rx
  obtain ⟨h1, h2, us, t, dd⟩ := dn_read I hd hk
  refine wpAny_notIn_heap (room8 hu) (nkey_is I hb) h1 dd ?_
  rw [← tri_some t]
  exact ⟨.bl (!(valF fs kk).isSome), H, I.tok _, rfl, q⟩
def rIxN (K : PySem.W.Frag) (w : World) : R2 := fun x y H Q => ∃ a b kk fs v, x = .ref a ∧ y = .ref b ∧ DnR K w H a fs ∧ NKey K H kk b ∧ valF fs kk = some v ∧ Q v H
theorem ix_N (hu : X.A.units + 20 < cLine) : IxR X (rIxN X.K X.w) := by
  intro value slice pins s σ H x y v u Q I rx ry h hs
  obtain ⟨a, b, kk, fs, z, rfl, rfl, ⟨⟨d, hd⟩, hk⟩, hb, hv, q⟩ := h
  obtain rfl : v = Value.ref a := rx
  obtain rfl : u = Value.ref b := ry
  obtain ⟨h1, h2, us, t, dd⟩ := dn_read I hd hk
  obtain ⟨w', hw, rw'⟩ := RelO.some_of (v := z) (o := (atKey us kk).map (·.2)) (by rw [← hv]; exact tri_val t)
  obtain ⟨p, hp, hp2⟩ := Option.map_eq_some_iff.mp hw
  refine PyProof.Rows.tail_any dd.typeIs PySem.F.slot_dict_getitem.lookup (wpAny_getItem_heap (room8 hu) (nkey_is I hb) dd hp ?_) hs
  rw [hp2]
  exact ⟨z, H, I.tok _, rw', q⟩
def rSetN (K : PySem.W.Frag) (w : World) : TSet := fun o i v H Q => ∃ a b kk fs, o = .ref a ∧ i = .ref b ∧ DnW K w H a fs ∧ NKey K H kk b ∧ fs.length < 100000 ∧ Q (upd H a (DnO w a (putF fs kk b v)))
theorem set_N (hu : X.A.units + 20 < cLine) : PSet X (rSetN X.K X.w) := by
  intro pins s σ H o i v ov iv u Q I ro ri rv h
  obtain ⟨a, b, kk, fs, rfl, rfl, ⟨⟨d, hd⟩, hk⟩, hb, hl, q⟩ := h
  cases (show ov = Value.ref a from ro)
  cases (show iv = Value.ref b from ri)
  obtain ⟨h1, h2, us, t, dd⟩ := dn_read I (.inl hd) hk
  have z : fs.length + 1 ≤ sizeLine := Nat.lt_of_lt_of_le hl (by decide)
  refine wpAny_setItem_heap (hsz := by rw [← Paired.length t]; exact h2) (room8 hu) (nkey_is I hb) dd fun h' dd' hs => ?_
  exact ⟨_, dn_write I hd h1 (Nat.le_trans (putF_len fs kk b v) z) hs (tri_put rv t) dd', q⟩
/-- d.get(y, x) -/
def rGetN (K : PySem.W.Frag) (w : World) : V → List V → Hp → VK → Prop := fun x xs H Q => ∃ a b kk fs z, x = .ref a ∧ xs = [.ref b, z] ∧ DnR K w H a fs ∧ NKey K H kk b ∧ Q ((valF fs kk).getD z) H
theorem mt_getN (hu : X.A.units + 20 < cLine) : MtR X "dict.get" (rGetN X.K X.w) := by
  intro pins s σ H x xs v us Q I rx rs h
  obtain ⟨a, b, kk, fs, z, rfl, rfl, ⟨⟨d, hd⟩, hk⟩, hb, q⟩ := h
  obtain rfl : v = Value.ref a := rx
  cases rs with
  | cons r1 r2 =>
    cases r2 with
    | cons r3 r4 =>
      cases r4
      rename_i u1 u2
      obtain rfl : u1 = Value.ref b := r1
      obtain ⟨h1, h2, ws, t, dd⟩ := dn_read I hd hk
      refine getOr_keyed (knd := nestedKind X.prog X.w) (kvs := pairsH ws) (room8 hu) (nkey_is I hb) h1 ⟨ws, dd, rfl⟩ ?_
      rw [valueAt_pairsH]
      exact ⟨_, H, I.tok _, (tri_val (kk := kk) t).getD r3, q⟩
/-- a method of one builtin type, its receiver's type told apart -/
theorem pe_bmX {o e : Expr} {es : List Expr} {to : TE} {t : TA} {name : Str} {apos cpos : Pos} {T id : String} {r : V → List V → Hp → VK → Prop} {ty : V → Hp → Prop}
    (hty' : ∀ (pins : List (Addr × Obj)) (σ : L2.St) (H : Hp) (s : Shared) (x : V) (v : Value), Inv X pins σ H s → RelV x v → ty x H → s.TypeIs v T ∧ ∀ a, v = .ref a → ∃ ob, s.heap.get? a = some ob ∧ ob.dict = none)
    (pa : PlainAttrs T) (slot : Slot T name id) (hty : typeOf (.builtin id) = pure (.type "method_descriptor")) (hm : MtR X id r) (ho : PE X o to) (ha : PA X (e :: es) t)
    (hbase : attributeBase o name X.env (eval o X.env) = eval o X.env)
    (hfew : ((backTo cpos (starEach (e :: es) X.env)).all (fun x => !x.1) && (backToKw cpos (keywordEach [] X.env)).all (fun x => x.1.isSome) && decide ((e :: es).length + ([] : List Keyword).length + (if ([] : List Keyword).isEmpty then 0 else 1) < 30)) = true)
    (hline : (apos.endLine == cpos.line) = true) (hs : starEach (e :: es) X.env = (false, eval e X.env) :: starEach es X.env) (hplain : (backTo cpos (starEach es X.env)).any (·.1) = false) :
    PE X (.Call (.Attribute o name apos) (e :: es) [] cpos) (fun σ H Q => to σ H fun x H1 => ty x H1 ∧ t σ H1 fun xs H2 => r x xs H2 Q) := by
  refine ⟨fun pins s0 σ H Q I h => wpAny_Call_method_late hbase hfew hline rfl (thn (ho.run pins s0 σ H _ I h) fun v s1 ⟨x, H1, I1, r1, tx, q1⟩ => ?_)⟩
  obtain ⟨g1, g2⟩ := hty' pins σ H1 s1 x v I1 r1 tx
  refine ⟨T, id, pa, slot, hty, g1, g2, ?_⟩
  have z := ha.run cpos pins s1 σ H1 _ I1 q1
  rw [hs] at z ⊢
  exact Calls.callWith_builtin (by rw [show (backTo cpos ((false, eval e X.env) :: starEach es X.env)).any (·.1) = (false || (backTo cpos (starEach es X.env)).any (·.1)) from rfl, hplain]; rfl) (Calls.evalArgs_plain (thn z fun us s2 ⟨vs, H2, I2, r2, q2⟩ => hm pins s2 σ H2 x vs v us Q I2 r1 r2 q2))
theorem tyN {w : World} (hw : X.w = w) : ∀ (pins : List (Addr × Obj)) (σ : L2.St) (H : Hp) (s : Shared) (x : V) (v : Value), Inv X pins σ H s → RelV x v → (∃ a fs, x = .ref a ∧ DnR X.K w H a fs) → s.TypeIs v "dict" ∧ ∀ a, v = .ref a → ∃ ob, s.heap.get? a = some ob ∧ ob.dict = none := by
  intro pins σ H s x v I r h
  subst hw
  obtain ⟨a, fs, rfl, ⟨d, hd⟩, hk⟩ := h
  obtain rfl : v = Value.ref a := r
  obtain ⟨h1, h2, us, t, dd⟩ := dn_read I hd hk
  refine ⟨dd.typeIs, fun b e => ?_⟩
  cases e
  obtain ⟨ob, _, _, ho, hx, _⟩ := dd
  exact ⟨ob, ho, hx.2.1⟩
/-- del d[y] -/
def sDelN (K : PySem.W.Frag) (w : World) (td ty : TE) : TS := fun D σ H => td σ H fun x H1 => ty σ H1 fun y H2 => ∃ a b kk fs, x = .ref a ∧ y = .ref b ∧ DnW K w H2 a fs ∧ NKey K H2 kk b ∧ (valF fs kk).isSome = true ∧ D.nx σ (upd H2 a (DnO w a (dropF fs kk)))
theorem ps_delN {o i : Expr} {td ty : TE} {tpos : Pos} (hu : X.A.units + 20 < cLine) (ho : PE X o td) (hi : PE X i ty) : PS X (.Delete [.Subscript o i tpos] pos) (sDelN X.K X.w td ty) := by
  refine ⟨fun pins s σ H D I h => ?_⟩
  refine wpAny_Delete (wpAny_deleteEach_cons (wpAny_delete_Subscript (thn (ho.run pins s σ H _ I h) fun u s1 ⟨x, H1, I1, rx, q1⟩ => thn (hi.run pins s1 σ H1 _ I1 q1) fun iv s2 ⟨y, H2, I2, ry, a, b, kk, fs, ex, ey, ⟨⟨d, hd⟩, hk⟩, hb, l, q2⟩ => ?_)))
  subst ex ey
  obtain rfl : u = Value.ref a := rx
  obtain rfl : iv = Value.ref b := ry
  obtain ⟨h1, h2, us, t, dd⟩ := dn_read I2 (.inl hd) hk
  rw [tri_some t] at l
  obtain ⟨p, hp⟩ := Option.isSome_iff_exists.mp l
  refine wpAny_delItem_heap (hsz := by rw [← Paired.length t]; exact h2) (room8 hu) (nkey_is I2 hb) h1 dd hp fun h' dd' hs => ?_
  exact wpAny_deleteEach_nil ⟨σ, _, dn_write I2 hd h1 (Nat.le_trans (dropF_len fs kk) h2) hs (tri_drop t) dd', q2⟩
end
end Wn
set_option Elab.async false
set_option linter.all false
set_option maxRecDepth 100000
set_option maxHeartbeats 2000000
set_option autoImplicit false
namespace Wn
open PySem L2 PyProof.Rows
/-! ### dicts by tuples: walked, sorted -/
/-- locked at o -/
def DnF (K : PySem.W.Frag) (w : World) (H : Hp) (a : Addr) (o : Obj) (fs : List (NestedKey × Addr × V)) : Prop := (∃ d, H a = some (.frz o (DnO w d fs))) ∧ ∀ p ∈ fs, NKey K H p.1 p.2.1
section
variable {X : Cx} {pins : List (Addr × Obj)} {σ : L2.St} {H : Hp} {s : Shared} {a d : Addr} {o : Obj} {fs : List (NestedKey × Addr × V)}
theorem frz_readN (I : Inv X pins σ H s) (h : H a = some (.frz o (DnO X.w d fs))) : (a == sysModules) = false ∧ s.heap.get? a = some o ∧ o.ExactDict ∧ ∃ (es : Array DictEntry) (ep : Nat), o.data = .dict es ep ∧ es.size = fs.length ∧
    ∀ (i : Nat) (p : NestedKey × Addr × V), fs[i]? = some p → ∃ en : DictEntry, es[i]? = some en ∧ en.key = .ref p.2.1 := by
  obtain ⟨ho, ok⟩ := I.hok a _ h
  obtain rfl := dnb_at ok
  obtain ⟨⟨h1, h2, o', es, ep, us, ho', hx, hd, t, he, nd⟩, _, _⟩ := ok
  rw [ho] at ho'; cases ho'
  have le : es.size = us.length := by rw [← Array.length_toList, he, List.length_map]
  refine ⟨h1, ho, hx, es, ep, hd, by rw [le, ← Paired.length t], fun i p hp => ?_⟩
  obtain ⟨q, hq, e1, e2, _⟩ := paired_get t hp
  refine ⟨⟨q.1.hash X.w, .ref q.2.1, q.2.2⟩, ?_, by rw [e2]⟩
  rw [← Array.getElem?_toList, he, List.getElem?_map, hq]
  rfl
/-- its keys, each its own tuple -/
def Itkn (K : PySem.W.Frag) (w : World) (a : Addr) (o : Obj) (fs : List (NestedKey × Addr × V)) : It :=
  ⟨fun i H => DnF K w H a o fs ∧ i < fs.length, fun i H x H' => H' = H ∧ ∃ p, fs[i]? = some p ∧ x = .ref p.2.1, fun i H => DnF K w H a o fs ∧ fs.length ≤ i⟩
theorem turn_keysN {P : Program} {w : World} {K : PySem.W.Frag} {tg : Expr} {es : Array DictEntry} {ep : Nat} (it : Addr) (hod : o.data = .dict es ep) : Turn P w K tg (Itkn K w a o fs) [it] it (fun i h => h.IsKeyIter it a i fs.length ep) :=
  ⟨by simp, fun i h st b hb => (by
      obtain rfl : b = it := by simpa using hb
      obtain ⟨oi, e, c, dd⟩ := st
      exact ⟨oi, e, fun v z => by rw [dd] at z; cases z⟩),
    fun i h h2 st kp => st.at fun oi e => kp it (by simp) oi e,
    fun X hP hw hK hc i pins s σ H E I hf st hg => (by
      subst hP hw hK
      obtain ⟨⟨⟨d, hd⟩, hk⟩, hi⟩ := hg
      have hF := hf it (by simp)
      obtain ⟨g0, g1, g2, g3, g4, g5⟩ := hF
      obtain ⟨n1, n2, n3, es', ep', n4, n5, ent⟩ := frz_readN I hd
      rw [hod] at n4; cases n4
      obtain ⟨en, hen, hke⟩ := ent i fs[i] (List.getElem?_eq_getElem hi)
      refine next_key_item st n2 hod n5 hen fun h2 st2 sb => ?_
      have J := Inv.turned (t' := s.toks) I (fun b ob hb e => (sb.2 b hb).trans e) g0 g1 g3 g4 g5
      obtain ⟨oi, e, c, dd⟩ := id st2
      refine ⟨en.key, rfl, go_of (s := { s with heap := h2 }) e c dd (by decide) ⟨.ref fs[i].2.1, H, J, hke, ⟨rfl, fs[i], List.getElem?_eq_getElem hi, rfl⟩, st2, fun b hb => (hf b hb).1⟩⟩),
    fun X hP hw hK hc i pins s σ H E I hf st hg => (by
      subst hP hw hK
      obtain ⟨⟨⟨d, hd⟩, hk⟩, hi⟩ := hg
      have hF := hf it (by simp)
      obtain ⟨g0, g1, g2, g3, g4, g5⟩ := hF
      obtain ⟨n1, n2, n3, es', ep', n4, n5, ent⟩ := frz_readN I hd
      rw [hod] at n4; cases n4
      exact next_key_end (I.ok.hd hc) st n2 hod n5 hi fun h2 eb => ⟨rfl, Inv.turned (t' := s.toks) I (fun b ob hb e => eb b ob hb e) g0 g1 g3 g4 g5⟩),
    fun A i s Q E st h => (by
      refine wpAny_pyIter_slot st.typeIs F.slot_dict_keyiterator_iter (wpAny_call_entry F.slot_dict_keyiterator_iter st.typeIs F.entry_dict_keyiterator_iter ?_ (F.args_dict_keyiterator_iter_1 _))
      exact (show wpAny _ _ (ret (.ref it)) _ _ s from wpAny_pure ⟨_, rfl, "dict_keyiterator", _, st.typeIs, F.slot_dict_keyiterator_next.lookup, h⟩))⟩
def iKeysN (K : PySem.W.Frag) (w : World) (td : TE) : TI := fun σ H R => td σ H fun x H1 => ∃ a o fs, x = .ref a ∧ DnF K w H1 a o fs ∧ R (Itkn K w a o fs) H1
theorem pi_keysN {tg e : Expr} {td : TE} (he : PE X e td) : PI X tg e (iKeysN X.K X.w td) := ⟨fun pins s σ H R I h => thn (he.run pins s σ H _ I h) fun u s1 ⟨x, H1, I1, rx, a, o, fs, ex, ⟨⟨d, hd⟩, hk⟩, q⟩ => by
  subst ex
  obtain rfl : u = Value.ref a := rx
  obtain ⟨n1, n2, n3, es, ep, n4, n5, ent⟩ := frz_readN I1 hd
  refine iter_keys n1 n2 n3 n4 (pi_one (tk := s1.toks) I1 _ (turn_keysN _ n4) ⟨_, Heap.get?_push_size _ rfl, rfl, ?_⟩ q)
  rw [n5] <;> rfl⟩
end
/-! sorted(d) -/
theorem vals_refsN : ∀ (L : List (Addr × List Int)), Vals (L.map fun q => V.ref q.1) (L.map fun q => Value.ref q.1)
  | [] => .nil
  | _ :: r => .cons rfl (vals_refsN r)
def rSortN (K : PySem.W.Frag) (w : World) (d : Nat) (B : Int) : List V → Hp → VK → Prop := fun xs H Q => ∃ (a : Addr) (fs : List (NestedKey × Addr × V)) (L : List (Addr × List Int)), xs = [V.ref a] ∧ DnR K w H a fs ∧ fs.map (·.2.1) = L.map (·.1) ∧ (∀ q ∈ L, SqT K H q.1 (q.2.map V.int)) ∧ fs.length < 64 ∧ (∀ q ∈ L, q.2.length = d ∧ TS.Bd B q.2) ∧
  ∀ (L' : List (Addr × List Int)) (p : Addr), L'.Perm L → L'.Pairwise (fun q r => TS.code B q.2 ≤ TS.code B r.2) → H p = none → Q (.ref p) (upd H p (.lst (L'.map fun q => V.ref q.1)))
theorem cr_sortedN {X : Cx} {k : Nat} (hr : Room k X.A) (hc : X.calm = true) {d : Nat} {B : Int} (hd1 : 1 ≤ d) : CallR X (.builtin "sorted") (rSortN X.K X.w d B) := by
  intro pins s σ H xs us Q I r h
  obtain ⟨a, fs, L, rfl, ⟨⟨dd, hd⟩, hkk⟩, f1, f3, h64, hB, q⟩ := h
  obtain ⟨u, rfl, rx⟩ := vals1 r
  cases rx
  have ok := hd.ok I.hok
  obtain rfl := dnb_at ok
  obtain ⟨⟨hs, hz, o, es, ep, ks, ho, hx, hdt, pr, he, nd⟩, _, _⟩ := ok
  have l1 : es.size = ks.length := by rw [← Array.length_toList, he, List.length_map]
  have l2 : fs.length = ks.length := Paired.length pr
  have f2 : ks.map (fun x => x.2.1) = L.map (·.1) := by
    rw [← f1]
    apply List.ext_getElem?
    intro j
    rw [List.getElem?_map, List.getElem?_map]
    cases hj : ks[j]? with
    | none => rw [List.getElem?_eq_none (by have := List.getElem?_eq_none_iff.mp hj; omega)]; rfl
    | some x => obtain ⟨p, hp, _, e2, _⟩ := paired_getR pr hj; rw [hp]; show some x.2.1 = some p.2.1; rw [e2]
  refine Calls.call_function_entry PyProof.Rows.kind_sorted PyProof.Rows.plain_sorted PyProof.Rows.entry_sorted (PyProof.Rows.args_sorted1 _) ?_
  unfold Builtin.«sorted»
  refine wpAny_bind (m := checkCount "sorted" 1 1 _) (wpAny_pure ?_)
  refine wpAny_bind (PySem.W.kdu_collect (A := X.A.in1) (kdl_raw hs hx hdt) (I.ok.hd hc) ho (by omega) fun h' tk acc hk hacc => ?_)
  have eL : acc.toList = L.map fun q => Value.ref q.1 := by
    have hl : acc.toList.length = ks.length := by rw [Array.length_toList, hacc.1]; exact l1
    have : acc.toList = (ks.map fun x => x.2.1).map Value.ref := by
      apply List.ext_getElem?
      intro j
      rw [List.getElem?_map, List.getElem?_map]
      cases hj : acc.toList[j]? with
      | none => rw [List.getElem?_eq_none (by have := List.getElem?_eq_none_iff.mp hj; omega)]; rfl
      | some v =>
        obtain ⟨en, hen, hv⟩ := hacc.2 j v (by rw [← Array.getElem?_toList]; exact hj)
        have qe : es[j]? = (ks[j]?).map fun x => (⟨x.1.hash X.w, .ref x.2.1, x.2.2⟩ : DictEntry) := by rw [← Array.getElem?_toList, he, List.getElem?_map]
        rw [hen] at qe
        cases hb : ks[j]? with
        | none => rw [hb] at qe; exact nomatch (show some en = none from qe)
        | some b =>
          rw [hb] at qe
          have e2 : en = ⟨b.1.hash X.w, .ref b.2.1, b.2.2⟩ := Option.some.inj qe
          rw [hv, e2]
          rfl
    rw [this, f2, List.map_map]
    rfl
  have lL : L.length = ks.length := by
    have := congrArg List.length f2
    rw [List.length_map, List.length_map] at this; exact this.symm
  generalize acc.toList = vs at eL
  have hvl : vs.length < 64 := by rw [eL, List.length_map, lL, ← l2]; exact h64
  have I1 : Inv X pins σ H { s with heap := h', toks := tk } := I.kept hk
  refine wpAny_bind (wpAny_newList ?_ (by rw [sizeLine_eq]; omega))
  have hoL : (h'.push (seqObj "list" vs.toArray 0)).get? h'.objs.size = some (seqObj "list" vs.toArray 0) := Heap.get?_push_size _ rfl
  show wpAny _ _ _ _ _ { s with heap := h'.push (seqObj "list" vs.toArray 0), toks := tk }
  have hn : H h'.objs.size = none := I1.hok.fresh (Nat.le_refl _)
  have I2 : Inv X pins σ (upd H h'.objs.size (.lst (L.map fun q => V.ref q.1))) { s with heap := h'.push (seqObj "list" vs.toArray 0), toks := tk } :=
    I1.laid (t' := tk) (fun b u e => Heap.get?_push_of_some _ e) (Nat.le_refl _) (show ObjOk X.prog X.w _ _ _ (.lst (L.map fun q => V.ref q.1)) from ⟨by rw [List.length_map, sizeLine_eq]; omega, vs, 0, by rw [eL]; exact vals_refsN L, hoL⟩)
  have tk2 : ∀ q ∈ L, TS.TupInts (h'.push (seqObj "list" vs.toArray 0)) (.ref q.1) q.2 := fun q hq => tupI_raw (s := { s with heap := h'.push (seqObj "list" vs.toArray 0), toks := tk }) I2 (Same.tupq (same_new hn) (f3 q hq))
  have x : TS.TupsOk (h'.push (seqObj "list" vs.toArray 0)) d B vs := fun v hv => by
    rw [eL] at hv
    obtain ⟨q, hq, e⟩ := List.mem_map.mp hv
    rw [← e]
    have := hB q hq
    exact ⟨q.2, tk2 q hq, this.1, this.2⟩
  refine wpAny_bind (wpAny_holding (TS.call_sort_tups (s := { s with heap := h'.push (seqObj "list" vs.toArray 0), toks := tk }) hoL hvl hd1 x fun out a1 a2 => ?_))
  obtain ⟨c, hc'⟩ := sortedHeap_at (vs := vs) (out := out) hoL
  obtain ⟨L', pL, e'⟩ := perm_map_ex a1 eL
  have pw : L'.Pairwise (fun q r => TS.code B q.2 ≤ TS.code B r.2) := by
    rw [e'] at a2
    refine List.Pairwise.imp_of_mem (fun {q r} hq hr hle => ?_) (List.pairwise_map.mp a2)
    have g1 : TS.intsOf (h'.push (seqObj "list" vs.toArray 0)) (.ref q.1) = q.2 := (tk2 q (pL.mem_iff.mp hq)).ints
    have g2 : TS.intsOf (h'.push (seqObj "list" vs.toArray 0)) (.ref r.1) = r.2 := (tk2 r (pL.mem_iff.mp hr)).ints
    rw [← g1, ← g2]
    exact hle
  have hlen : (L'.map fun q => V.ref q.1).length ≤ sizeLine := by rw [List.length_map, pL.length_eq, sizeLine_eq]; omega
  refine wpAny_pure ⟨_, rfl, .ref h'.objs.size, upd H h'.objs.size (.lst (L'.map fun q => V.ref q.1)), I1.laid (t' := tk) (fun b u e => ?_) (Nat.le_refl _)
    (show ObjOk X.prog X.w _ _ _ (.lst (L'.map fun q => V.ref q.1)) from ⟨hlen, out.toList, c, by rw [e']; exact vals_refsN L', hc'⟩), rfl, q L' _ pL pw hn⟩
  have hb : b < h'.objs.size := Heap.lt_size e
  show (sortedHeap (h'.push (seqObj "list" vs.toArray 0)) h'.objs.size vs out).get? b = some u
  rw [sortedHeap_old (Nat.ne_of_lt hb) (by rw [size_push']; exact Nat.lt_succ_of_lt hb)]
  exact Heap.get?_push_of_some _ e
end Wn
set_option Elab.async false
set_option linter.all false
set_option maxRecDepth 100000
set_option maxHeartbeats 2000000
set_option autoImplicit false
namespace Wn
open PySem L2 PySem.Spec PyProof.Rows
/-! ### {key: value for .. in ..}, the keys tuples -/
theorem put_dn {X : Cx} {pins : List (Addr × Obj)} {σ : L2.St} {H : Hp} {s : Shared} {E : Value → Shared → Prop} {D b : Addr} {kk : NestedKey} {fs : List (NestedKey × Addr × V)} {v : V} {u : Value} {Q : Unit → Shared → Prop} (hu : X.A.units + 20 < cLine) (I : Inv X pins σ H s) (hD : DnW X.K X.w H D fs)
    (hz : fs.length < 1000000) (hb : NKey X.K H kk b) (rv : RelV v u) (h : ∀ s2, Inv X pins σ (upd H D (DnO X.w D (putF fs kk b v))) s2 → Q () s2) : wpAny (model X.prog X.w) X.A (dictSet D (.ref b) u) Q E s := by
  obtain ⟨⟨d, hd⟩, hk⟩ := hD
  obtain ⟨h1, h2, us, t, dd⟩ := dn_read I (.inl hd) hk
  have z : fs.length + 1 ≤ sizeLine := Nat.le_trans (Nat.succ_le_of_lt hz) (by decide)
  exact wpAny_dictSet_heap (knd := nestedKind X.prog X.w) (hsz := by rw [← Paired.length t]; exact h2) (show X.A.units + 8 < cLine by omega) (nkey_is I hb) dd fun h' dd' hs => h _ (dn_write I hd h1 (Nat.le_trans (putF_len fs kk b v) z) hs (tri_put rv t) dd')
section
variable {X : Cx}
/-- one turn's end -/
def DcT (K : PySem.W.Frag) (w : World) (D : Addr) (Nx : Hp → Prop) : V → V → Hp → Prop := fun y z H => ∃ b kk fs, y = .ref b ∧ DnW K w H D fs ∧ NKey K H kk b ∧ fs.length < 1000000 ∧ Nx (upd H D (DnO w D (putF fs kk b z)))
def tDcN (K : PySem.W.Frag) (w : World) (wi : TI) (g : TG) (tt : TT) (tk tv : TE) (vs : List Nat) : TE := fun σ H Q => wi σ H fun J H1 => ∀ D, H1 D = none → ∃ W : Nat → Nat → Hp → Prop, (∃ n, W 0 n (upd H1 D (DnO w D []))) ∧ ∀ i n H2, W i n H2 →
  (J.stop i H2 ∧ Q (.ref D) H2) ∨ (J.go i H2 ∧ ∃ Nx : Hp → Prop, (∀ H3, Nx H3 → ∃ n', n' < n ∧ W (i + 1) n' H3) ∧ ∀ x H3, J.yld i H2 x H3 → g x (wipe σ vs) H3 fun σ4 H4 => wipe σ4 vs = wipe σ vs ∧ tt σ4 H4 fun b H5 =>
    if b = true then tk σ4 H5 fun y H6 => tv σ4 H6 fun z H7 => DcT K w D Nx y z H7 else Nx H5)
theorem dcN_core {pins : List (Addr × Obj)} {s : Shared} {σ : L2.St} {H : Hp} {Q : VK} {kx vx tg iter : Expr} {ifs : List Expr} {scope : Scope} {own : List (Str × Nat)} {pos pos' : Pos} {wi : TI} {g : TG} {tt : TT} {tk tv : TE} {use : Option (Value → Sem Unit)} {Qf : Value → Shared → Prop}
    (hu : X.A.units + 20 < cLine) (hc : X.calm = true) (hN : X.N.Nodup) (I : Inv X pins σ H s) (hi : PI X tg iter wi) (ok : BlkOk X.N X.env.scope scope own)
    (hg : ∀ (t : Shared) (G : Hp) (C : Addr) (cl : List (Str × Addr)) (fp : List Addr), PG (X.blk t G scope (compEnvC scope cl C X.env) fp) tg g) (ht : ∀ (t : Shared) (G : Hp) (C : Addr) (cl : List (Str × Addr)) (fp : List Addr), PTs (X.blk t G scope (compEnvC scope cl C X.env) fp) ifs tt)
    (hk : ∀ (t : Shared) (G : Hp) (C : Addr) (cl : List (Str × Addr)) (fp : List Addr), PE (X.blk t G scope (compEnvC scope cl C X.env) fp) kx tk) (he : ∀ (t : Shared) (G : Hp) (C : Addr) (cl : List (Str × Addr)) (fp : List Addr), PE (X.blk t G scope (compEnvC scope cl C X.env) fp) vx tv)
    (hs : ∀ x, foldedSetIterable iter X.env x = pure x) (h : tDcN X.K X.w wi g tt tk tv (own.map (·.2)) σ H Q)
    (fin : ∀ D C s' m H', Inv X pins σ H' s' → Q (.ref D) H' → s'.heap.Ns C m → FpOk X pins H' C → compPost (model X.prog X.w) X.A X.xe use Qf (.ref D) C (.ok .next) s') :
    wpAny (model X.prog X.w) X.A (comprehension (.DictComp kx vx [⟨tg, iter, ifs, 0⟩] scope pos) scope X.env pos' newDict false (eval iter X.env) use) Qf X.xe s := by
  have cells : ∀ y ∈ scope.names, y.2 = .free → ∃ c, X.env.cells.lookup y.1 = some c := fun y hy e => (ok.free y hy e).elim (fun z => I.ok.has _ (.inl z)) (fun z => I.ok.has _ (.inr z))
  refine wpAny_comprehension_free (use := use) rfl hs (closure_ok cells) ok.kind (fun y hy e => (ok.uniq y hy).trans (congrArg some e)) (thn (hi.run pins s σ H _ I h) fun xv s1 hx => thn hx fun itv s2 ⟨it, fp, tn, J, H2, eit, I2, T, st2, f2, q⟩ => ?_)
  subst eit
  refine wpAny_newObj_type (newEnv_comp ?_)
  -- where the new dict lies
  obtain ⟨D, eD⟩ : ∃ D, s2.heap.objs.size = D := ⟨_, rfl⟩
  rw [eD]
  have nD : H2 D = none := I2.hok.fresh (Nat.le_of_eq eD)
  obtain ⟨W, ⟨n0, w0⟩, turn⟩ := q D nD
  obtain ⟨t3, et3⟩ : ∃ t3 : Shared, ({ s2 with heap := s2.heap.push { cls := .type "dict", data := .dict #[] } } : Shared) = t3 := ⟨_, rfl⟩
  have hp3 : t3.heap = s2.heap.push { cls := .type "dict", data := .dict #[] } := by rw [← et3]
  obtain ⟨H3, eH3⟩ : ∃ H3, upd H2 D (DnO X.w D []) = H3 := ⟨_, rfl⟩
  have I3 : Inv X pins σ H3 t3 := by
    rw [← et3, ← eH3]
    refine I2.laid (t' := s2.toks) (fun b o e => Heap.get?_push_of_some _ e) (Nat.le_of_eq eD) ?_
    rw [← eD]
    exact dn_ok (us := []) (beq_eq_false_iff_ne.mpr (Ne.symm (Nat.ne_of_lt I2.big))) (Nat.zero_le _) .nil (Heap.DictOfH.new s2.heap)
  have low : ∀ b ∈ fp, b < s2.heap.objs.size := fun b hb => let ⟨o, e, _⟩ := T.obj _ _ st2 b hb; Heap.lt_size e
  have F3 : ∀ b ∈ fp, FpOk X pins H3 b ∧ b < t3.heap.objs.size := fun b hb => by
    refine ⟨⟨?_, (f2 b hb).2⟩, by rw [hp3, Heap.size_push]; exact Nat.lt_succ_of_lt (low b hb)⟩
    rw [← eH3, upd_ne (by rw [← eD]; exact Nat.ne_of_lt (low b hb))]
    exact (f2 b hb).1
  have tn3 : tn 0 t3.heap := T.keep _ _ _ st2 fun b _ o e => by rw [hp3]; exact Heap.get?_push_of_some _ e
  have I4 := block_start I3 ok hN F3
  obtain ⟨C, eC⟩ : ∃ C, t3.heap.objs.size = C := ⟨_, rfl⟩
  obtain ⟨cl, ecl⟩ : ∃ cl, cellsFrom (t3.heap.objs.size + 1) scope.names (cloFrom X.env.cells scope.names []) = cl := ⟨_, rfl⟩
  have pg := hg t3 H3 C cl fp
  have pt := ht t3 H3 C cl fp
  have pk := hk t3 H3 C cl fp
  have pe := he t3 H3 C cl fp
  have nfp : ∀ b ∈ fp, H3 b = none := fun b hb => (F3 b hb).1.1
  rw [eH3] at w0
  rw [ecl, eC] at I4
  obtain ⟨ce, ece⟩ : ∃ ce, compEnvC scope cl C X.env = ce := ⟨_, rfl⟩
  have cL : ce.locals = C := by subst ece; rfl
  obtain ⟨t4, et4⟩ : ∃ t4 : Shared, ({ t3 with heap := pushCells (t3.heap.push { cls := .type "dict", data := .dict #[] }) scope.names } : Shared) = t4 := ⟨_, rfl⟩
  rw [ece] at pg pt pk pe I4
  rw [et4] at I4
  have tn4 : tn 0 t4.heap := T.keep _ _ _ tn3 fun b _ o e => by rw [← et4]; exact pushCells_keeps _ _ _ _ (Heap.get?_push_of_some _ e)
  have lies : ∀ {τ : L2.St} {G : Hp} {t : Shared}, Inv (X.blk t3 H3 scope ce fp) [] τ G t → (∀ b ∈ fp, G b = none) → ∀ b ∈ fp, FpOk (X.blk t3 H3 scope ce fp) [] G b := fun {τ G t} J' hn b hb =>
    ⟨hn b hb, (J'.ok.exf b hb).1, J'.ok.exfs b hb, .inl hb, fun x c e => (J'.ok.exf b hb).2 x c e, fun p hp => absurd (show p ∈ ([] : List (Addr × Obj)) ++ [] from hp) (by simp)⟩
  have loop : codeAny (model X.prog X.w) X.A (.compLoop (.DictComp kx vx [⟨tg, iter, ifs, 0⟩] scope pos) 0 (.ref it) (.ref D) ce) (compPost (model X.prog X.w) X.A X.xe use Qf (.ref D) C) t4 := by
    refine compLoop_anyD (fun n t => ∃ i G, Inv (X.blk t3 H3 scope ce fp) [] (wipe σ (own.map (·.2))) G t ∧ tn i t.heap ∧ (∀ b ∈ fp, G b = none) ∧ W i n G) ?_ n0 ⟨0, H3, I4, tn4, nfp, w0⟩
    rintro n t5 ⟨i, G5, I5, tn5, n5, w5⟩
    rcases turn i n G5 w5 with ⟨stop, qq⟩ | ⟨go, Nx, hNx, step⟩
    · refine thnF (T.done (X.blk t3 H3 scope ce fp) rfl rfl rfl hc i [] t5 _ G5 (fun _ _ => False) I5 (lies I5 n5) tn5 stop) fun r t6 ⟨hr, I6⟩ => ?_
      subst hr
      have back : Inv X pins σ G5 t6 := I3.call' (ch := fp) I6.os I6.base I6.hok I6.bare fun b hb => ⟨(F3 b hb).1.2.2.2.1, (F3 b hb).1.2.1, (F3 b hb).1.2.2.2.2.1, (F3 b hb).1.2.2.2.2.2⟩
      have nC : G5 C = none := by rw [← cL]; exact I6.free
      obtain ⟨m, hn, _⟩ := I6.loc
      have hn : t6.heap.Ns C m := by rw [← cL]; exact hn
      exact fin D C t6 m G5 back qq hn (by rw [← eC] at nC ⊢; exact I3.fpOk (Nat.le_refl _) nC)
    · refine thnF (T.item (X.blk t3 H3 scope ce fp) rfl rfl rfl hc i [] t5 _ G5 (fun _ _ => False) I5 (lies I5 n5) tn5 go) fun r t6 ⟨u, hr, h6⟩ => ?_
      subst hr
      refine thnF h6 fun _ t7 ⟨x, G7, I7, r7, y7, tn7, n7⟩ => ?_
      refine thnF (pg.run _ t7 _ G7 x u _ (I7.pinned (lies I7 n7) (T.obj _ _ tn7)) r7 (step x G7 y7)) fun _ t8 ⟨σ8, G8, I8, hw8, q8⟩ => ?_
      refine thnF (pt.run _ t8 σ8 G8 _ I8 q8) fun b t9 ⟨G9, I9, q9⟩ => ?_
      have over : ∀ {t : Shared} {G : Hp}, Inv (X.blk t3 H3 scope ce fp) ([] ++ pinsAt fp t7.heap) σ8 G t → Nx G → ∃ n', n' < n ∧ ∃ i G, Inv (X.blk t3 H3 scope ce fp) [] (wipe σ (own.map (·.2))) G t ∧ tn i t.heap ∧ (∀ b ∈ fp, G b = none) ∧ W i n' G := fun {t G} J' nx => by
        obtain ⟨n', hn, w'⟩ := hNx G nx
        have still : ∀ b ∈ fp, ∀ o, t7.heap.get? b = some o → t.heap.get? b = some o ∧ G b = none := fun b hb o e => let z := J'.pin (b, o) (List.mem_append_right _ (List.mem_append_right _ (mem_pinsAt hb e))); ⟨z.1, z.2.1⟩
        refine ⟨n', hn, i + 1, G, (J'.unpinned (pins := [])).weak (by rw [← hw8, wipe_length]) (fun j v e => ?_), T.keep _ _ _ tn7 fun b hb o e => (still b hb o e).1, fun b hb => ?_, w'⟩
        · rw [← hw8] at e
          exact (wipe_some e).1
        · obtain ⟨o, e, _⟩ := T.obj _ _ tn7 b hb
          exact (still b hb o e).2
      cases b with
      | false => rw [if_neg Bool.false_ne_true] at q9 ⊢; exact over I9 q9
      | true =>
        rw [if_pos rfl] at q9 ⊢
        refine thnF (pk.run _ t9 σ8 G9 _ I9 q9) fun z t10 ⟨yk, G10, I10, r10, q10⟩ => thnF (pe.run _ t10 σ8 G10 _ I10 q10) fun z2 t11 ⟨yv, G11, I11, r11, b, kk, fs, ek, hW, hb, hz, nx⟩ => ?_
        subst ek
        obtain rfl : z = Value.ref b := r10
        exact put_dn (X := X.blk t3 H3 scope ce fp) hu I11 hW hz hb r11 fun t12 I12 => over I12 nx
  rw [et3]
  show codeAny _ _ (.compStart (.DictComp kx vx [⟨tg, iter, ifs, 0⟩] scope pos) 0 (.ref it) (.ref D) (compEnvC scope (cellsFrom (t3.heap.objs.size + 1) scope.names (cloFrom X.env.cells scope.names [])) t3.heap.objs.size X.env)) (compPost (model X.prog X.w) X.A X.xe use Qf (.ref D) t3.heap.objs.size) { t3 with heap := pushCells (t3.heap.push { cls := .type "dict", data := .dict #[] }) scope.names }
  rw [ecl, eC, ece, et4]
  exact codeAny_compStart_dict loop (T.self X.A 0 _ _ _ tn4 loop)
theorem pe_dcN {kx vx tg iter : Expr} {ifs : List Expr} {scope : Scope} {own : List (Str × Nat)} {pos : Pos} {wi : TI} {g : TG} {tt : TT} {tk tv : TE} (hu : X.A.units + 20 < cLine) (hc : X.calm = true) (hN : X.N.Nodup) (hi : PI X tg iter wi) (ok : BlkOk X.N X.env.scope scope own)
    (hg : ∀ (t : Shared) (G : Hp) (C : Addr) (cl : List (Str × Addr)) (fp : List Addr), PG (X.blk t G scope (compEnvC scope cl C X.env) fp) tg g) (ht : ∀ (t : Shared) (G : Hp) (C : Addr) (cl : List (Str × Addr)) (fp : List Addr), PTs (X.blk t G scope (compEnvC scope cl C X.env) fp) ifs tt)
    (hk : ∀ (t : Shared) (G : Hp) (C : Addr) (cl : List (Str × Addr)) (fp : List Addr), PE (X.blk t G scope (compEnvC scope cl C X.env) fp) kx tk) (he : ∀ (t : Shared) (G : Hp) (C : Addr) (cl : List (Str × Addr)) (fp : List Addr), PE (X.blk t G scope (compEnvC scope cl C X.env) fp) vx tv)
    (hs : ∀ x, foldedSetIterable iter X.env x = pure x) : PE X (.DictComp kx vx [⟨tg, iter, ifs, 0⟩] scope pos) (tDcN X.K X.w wi g tt tk tv (own.map (·.2))) := ⟨fun pins s σ H Q I h => by
  rw [arm_eval_DictComp]
  refine dcN_core hu hc hN I hi ok hg ht hk he hs h fun D C s' m H' I' q hn f => ⟨m, hn, fun h2 sb => ?_⟩
  exact ⟨.ref D, H', I'.turned (t' := s'.toks) (fun b o hb e => (sb.2 b hb).trans e) f.1 f.2.1 f.2.2.2.1 f.2.2.2.2.1 f.2.2.2.2.2, rfl, q⟩⟩
theorem swd_true {kx vx : Expr} {gs : List Comprehension} {scope : Scope} {pos py : Pos} {y : Str} {l : Nat} {env : Env} (hk : env.scope.kind = .function) (hy : env.scope.names.lookup y = some .local) (hl : (py.line == pos.line) = true)
    (ha : (scope.names.any fun (n, k) => n == y && (k == .local || k == .cell)) = false) : swapsWith (.DictComp kx vx gs scope pos) (some (.Name y py)) l env = pure true := by
  have k1 : env.kindOf y = some .local := hy
  have k2 : env.blockKind = .function := by unfold Env.blockKind; rw [hk]; rfl
  unfold swapsWith
  simp only [k2, k1, ha, Expr.pos, hl]
  rfl
theorem ps_setDcN {i : Nat} {y : Str} {py : Pos} {kx vx tg iter : Expr} {ifs : List Expr} {scope : Scope} {own : List (Str × Nat)} {pos spos : Pos} {wi : TI} {g : TG} {tt : TT} {tk tv : TE} (hu : X.A.units + 20 < cLine) (hc : X.calm = true) (hN : X.N.Nodup) (hy : X.N[i]? = some y) (hyl : X.env.scope.names.lookup y = some .local)
    (hsw : swapsWith (.DictComp kx vx [⟨tg, iter, ifs, 0⟩] scope pos) (some (.Name y py)) spos.line X.env = pure true) (hi : PI X tg iter wi) (ok : BlkOk X.N X.env.scope scope own)
    (hg : ∀ (t : Shared) (G : Hp) (C : Addr) (cl : List (Str × Addr)) (fp : List Addr), PG (X.blk t G scope (compEnvC scope cl C X.env) fp) tg g) (ht : ∀ (t : Shared) (G : Hp) (C : Addr) (cl : List (Str × Addr)) (fp : List Addr), PTs (X.blk t G scope (compEnvC scope cl C X.env) fp) ifs tt)
    (hk : ∀ (t : Shared) (G : Hp) (C : Addr) (cl : List (Str × Addr)) (fp : List Addr), PE (X.blk t G scope (compEnvC scope cl C X.env) fp) kx tk) (he : ∀ (t : Shared) (G : Hp) (C : Addr) (cl : List (Str × Addr)) (fp : List Addr), PE (X.blk t G scope (compEnvC scope cl C X.env) fp) vx tv)
    (hs : ∀ x, foldedSetIterable iter X.env x = pure x) : PS X (.Assign [.Name y py] (.DictComp kx vx [⟨tg, iter, ifs, 0⟩] scope pos) spos) (tAsg (tDcN X.K X.w wi g tt tk tv (own.map (·.2))) (gName i)) := ⟨fun pins s σ H D I h => by
  rw [exec_Assign_Name_used _ _ _ _ hsw]
  refine wpAny_bind (wpAny_standAt (wpAny_bind ?_))
  show wpAny _ X.A (do let _ ← comprehension (.DictComp kx vx [⟨tg, iter, ifs, 0⟩] scope pos) scope X.env (firstIterPos [⟨tg, iter, ifs, 0⟩] pos) newDict false (eval iter X.env) (some (assign (.Name y py) X.env))) _ _ s
  have h : tDcN X.K X.w wi g tt tk tv (own.map (·.2)) σ H (fun x H1 => gName i x σ H1 D.nx) := h
  refine wpAny_bind (thn (dcN_core (Qf := fun _ s' => SP X pins D .next s') hu hc hN I hi ok hg ht hk he hs h fun L C s' m H' I' q hn f => ?_) fun _ s' hq => wpAny_pure (wpAny_pure hq))
  show wpAny _ _ (assign (.Name y py) X.env (.ref L)) _ _ _
  refine wpAny_assign_Name (store_ok2 (v := V.ref L) I' hN hy (.inl hyl) rfl (fun s2 I2 ⟨a, sb, ha⟩ => ?_) (.inr hyl))
  have ne : C ≠ a := ha.elim (fun z => by rw [z]; exact f.2.1) (fun z e => f.2.2.2.2.1 y a z e.symm)
  exact ⟨m, hn.sameBut sb ne, fun h3 sb3 => ⟨_, H', I2.turned (t' := s2.toks) (fun b o hb e => (sb3.2 b hb).trans e) f.1 f.2.1 f.2.2.2.1 f.2.2.2.2.1 f.2.2.2.2.2, q⟩⟩⟩
end
end Wn
set_option Elab.async false
set_option linter.all false
set_option maxRecDepth 100000
set_option maxHeartbeats 2000000
set_option autoImplicit false
namespace Wn
open PySem L2 PyProof.Rows
/-! ### dicts by tuples in the store -/
def valN (gs : List (NestedKey × MV)) (kk : NestedKey) : Option MV := (gs.find? fun p => decide (p.1 = kk)).map (·.2)
def putN (gs : List (NestedKey × MV)) (kk : NestedKey) (x : MV) : List (NestedKey × MV) := if (valN gs kk).isSome = true then gs.map (fun p => if p.1 = kk then (p.1, x) else p) else gs ++ [(kk, x)]
def dropN (gs : List (NestedKey × MV)) (kk : NestedKey) : List (NestedKey × MV) := gs.filter fun p => decide (p.1 ≠ kk)
theorem putN_len (gs : List (NestedKey × MV)) (kk : NestedKey) (x : MV) : (putN gs kk x).length ≤ gs.length + 1 := by
  unfold putN
  split
  · rw [List.length_map]; omega
  · rw [List.length_append]; simp
section
variable {K : PySem.W.Frag} {π : List Addr} {G H : Hp} {m : Mm}
theorem rkn_val {kk : NestedKey} : ∀ {fs : List (NestedKey × Addr × V)} {gs : List (NestedKey × MV)}, Paired (Rkn K G π) fs gs → (valN gs kk = none → valF fs kk = none) ∧ ∀ y, valN gs kk = some y → ∃ v, valF fs kk = some v ∧ Rv K G π v y
  | _, _, .nil => ⟨fun _ => rfl, fun _ h => by cases h⟩
  | _, _, .cons (a := p) (b := q) (l₁ := ps) (l₂ := qs) r t => by
    obtain ⟨i1, i2⟩ := rkn_val (kk := kk) t
    obtain ⟨e, _, _, rv⟩ := r
    by_cases h : q.1 = kk
    · have e1 : valN (q :: qs) kk = some q.2 := by simp [valN, List.find?_cons, h]
      have e2 : valF (p :: ps) kk = some p.2.2 := by simp [valF, List.find?_cons, e.trans h]
      rw [e1, e2]
      refine ⟨fun z => (by cases z), fun y z => (by cases z; exact ⟨_, rfl, rv⟩)⟩
    · have e1 : valN (q :: qs) kk = valN qs kk := by simp [valN, List.find?_cons, h]
      have e2 : valF (p :: ps) kk = valF ps kk := by simp [valF, List.find?_cons, show ¬ p.1 = kk from fun z => h (e.symm.trans z)]
      rw [e1, e2]
      exact ⟨i1, i2⟩
theorem rkn_some {kk : NestedKey} {fs : List (NestedKey × Addr × V)} {gs : List (NestedKey × MV)} (t : Paired (Rkn K G π) fs gs) : (valF fs kk).isSome = (valN gs kk).isSome := by
  obtain ⟨h1, h2⟩ := rkn_val (kk := kk) t
  cases e : valN gs kk with
  | none => rw [h1 e]; rfl
  | some y => obtain ⟨v, hv, _⟩ := h2 y e; rw [hv]; rfl
theorem rkn_repl {kk : NestedKey} {v : V} {x : MV} (rx : Rv K G π v x) : ∀ {fs : List (NestedKey × Addr × V)} {gs : List (NestedKey × MV)}, Paired (Rkn K G π) fs gs → Paired (Rkn K G π) (fs.map fun p => if p.1 = kk then (p.1, p.2.1, v) else p) (gs.map fun p => if p.1 = kk then (p.1, x) else p)
  | _, _, .nil => .nil
  | _, _, .cons (a := p) (b := q) r t => by
    rw [List.map_cons, List.map_cons]
    refine .cons ?_ (rkn_repl rx t)
    obtain ⟨h1, h2, h3, h4⟩ := r
    by_cases e : p.1 = kk
    · rw [if_pos e, if_pos (h1.symm.trans e)]; exact ⟨h1, h2, h3, rx⟩
    · rw [if_neg e, if_neg (fun z => e (h1.trans z))]; exact ⟨h1, h2, h3, h4⟩
theorem rkn_put {kk : NestedKey} {b : Addr} {v : V} {x : MV} (hb : NKey K G kk b) (rx : Rv K G π v x) {fs : List (NestedKey × Addr × V)} {gs : List (NestedKey × MV)} (t : Paired (Rkn K G π) fs gs) : Paired (Rkn K G π) (putF fs kk b v) (putN gs kk x) := by
  unfold putF putN
  rw [rkn_some t]
  by_cases e : (valN gs kk).isSome = true
  · rw [if_pos e, if_pos e]; exact rkn_repl rx t
  · rw [if_neg e, if_neg e]; exact Paired.snoc t ⟨rfl, hb.1, hb.2, rx⟩
theorem rkn_drop {kk : NestedKey} : ∀ {fs : List (NestedKey × Addr × V)} {gs : List (NestedKey × MV)}, Paired (Rkn K G π) fs gs → Paired (Rkn K G π) (dropF fs kk) (dropN gs kk)
  | _, _, .nil => .nil
  | _, _, .cons (a := p) (b := q) r t => by
    have ih := rkn_drop (kk := kk) t
    unfold dropF dropN at ih ⊢
    rw [List.filter_cons, List.filter_cons]
    by_cases e : p.1 = kk
    · rw [if_neg (by simp [e]), if_neg (by simp [r.1.symm.trans e])]; exact ih
    · have e' : ¬ q.1 = kk := fun z => e (r.1.trans z)
      rw [if_pos (by simp [e]), if_pos (by simp [e'])]; exact .cons r ih
theorem NKey.mono {G' : Hp} {kk : NestedKey} {b : Addr} (h : NKey K G kk b) (g : Same G G') : NKey K G' kk b := ⟨h.1, da_mono g h.2⟩
theorem rkn_keys {fs : List (NestedKey × Addr × V)} {gs : List (NestedKey × MV)} (t : Paired (Rkn K G π) fs gs) : ∀ p ∈ fs, NKey K G p.1 p.2.1 := fun p hp => by
  obtain ⟨i, hi, e⟩ := List.mem_iff_getElem.mp hp
  obtain ⟨q, _, r⟩ := paired_get t (show fs[i]? = some p by rw [List.getElem?_eq_getElem hi, e])
  exact ⟨r.2.1, r.2.2.1⟩
def dnAt (m : Mm) (w : World) (i : Nat) (gs : List (NestedKey × MV)) : Prop := m[i]? = some (.dn w gs) ∨ ∃ o u, m[i]? = some (.fz o u (.dn w gs))
def dctAt (m : Mm) (i : Nat) (gs : List (Key × MV)) : Prop := m[i]? = some (.dct gs) ∨ ∃ o u, m[i]? = some (.fz o u (.dct gs))
theorem dn_realW {w : World} {v : V} {i : Nat} {gs : List (NestedKey × MV)} (hk : Hk K π G H m) (rv : Rv K G π v (.r i)) (hi : m[i]? = some (.dn w gs)) : ∃ a fs, v = .ref a ∧ π[i]? = some a ∧ DnW K w H a fs ∧ Paired (Rkn K G π) fs gs := by
  obtain ⟨a, ha, rfl⟩ := rv
  obtain ⟨a', u, h1, h2, d, fs, eu, rs⟩ := hk.obj i _ hi
  rw [ha] at h1; cases h1
  subst eu
  exact ⟨a, fs, rfl, ha, ⟨⟨d, h2⟩, fun p hp => (rkn_keys rs p hp).mono hk.sub⟩, rs⟩
theorem dn_realR {w : World} {v : V} {i : Nat} {gs : List (NestedKey × MV)} (hk : Hk K π G H m) (rv : Rv K G π v (.r i)) (hi : dnAt m w i gs) : ∃ a fs, v = .ref a ∧ π[i]? = some a ∧ DnR K w H a fs ∧ Paired (Rkn K G π) fs gs := by
  rcases hi with hi | ⟨o, u0, hi⟩
  · obtain ⟨a, fs, e, ha, ⟨⟨d, hd⟩, hk'⟩, rs⟩ := dn_realW hk rv hi
    exact ⟨a, fs, e, ha, ⟨⟨d, .inl hd⟩, hk'⟩, rs⟩
  · obtain ⟨a, ha, rfl⟩ := rv
    obtain ⟨a', u, h1, h2, eu, d, fs, eu2, rs⟩ := hk.obj i _ hi
    rw [ha] at h1; cases h1
    subst eu eu2
    exact ⟨a, fs, rfl, ha, ⟨⟨d, .inr ⟨o, h2⟩⟩, fun p hp => (rkn_keys rs p hp).mono hk.sub⟩, rs⟩
theorem dct_realR {v : V} {i : Nat} {gs : List (Key × MV)} (hk : Hk K π G H m) (rv : Rv K G π v (.r i)) (hi : dctAt m i gs) : ∃ a fs, v = .ref a ∧ π[i]? = some a ∧ Rd H a (.dK fs) ∧ Paired (Rkv K G π) fs gs := by
  rcases hi with hi | ⟨o, u0, hi⟩
  · obtain ⟨a, fs, e, ha, hd, rs⟩ := dct_real hk rv hi
    exact ⟨a, fs, e, ha, .inl hd, rs⟩
  · obtain ⟨a, ha, rfl⟩ := rv
    obtain ⟨a', u, h1, h2, eu, fs, eu2, rs⟩ := hk.obj i _ hi
    rw [ha] at h1; cases h1
    subst eu eu2
    exact ⟨a, fs, rfl, ha, .inr ⟨o, h2⟩, rs⟩
theorem nkey_real {kk : NestedKey} {v : V} {ks : List NestedKey} (hd : kk.depth ≤ 8) (ht : kk = .tup ks) (h : Rv K G π v (.d kk.data)) : ∃ b, v = .ref b ∧ NKey K G kk b := by
  subst ht
  have h' : Da K G v (.tuple (NestedKey.datas ks)) := h
  obtain ⟨b, xs, rfl, _⟩ := Da.tupI h'
  exact ⟨b, rfl, hd, h⟩
end
section
variable {ι : Type} {X : ι → Cx} {P : Program} {w : World} {K : PySem.W.Frag} {mg : Str → Option Value} {base : Heap} {N : List Str} {sc : Scope} {fv : Str → Bool} {k : Nat} {ρ : Ro} {m : Mm} {Q : QV} {D : Ed} {a b c e f tg it kx vx : Expr} {pos p : Pos} {x y z : MV} {st : Stmt} {rest body : List Stmt}
theorem we_dnewN (F : Fam X P w K mg base N sc fv k) (q : Q (.r m.length) (m ++ [.dn w []])) : We X K (.Dict [] [] pos) ρ m Q := fun π G σ H R hk sk wv =>
  ⟨_, fun j => F.cW j ▸ pe_dnewN, fun pa hp => by
    have e3 : Xt π G H (π ++ [pa]) G (upd H pa (DnO w pa [])) := Xt.alloc hp
    refine wv _ (.r m.length) _ _ _ _ e3 (hk.alloc hp (show Rob K G (π ++ [pa]) (DnO w pa []) (.dn w []) from ⟨pa, [], rfl, .nil⟩)) ⟨pa, ?_, rfl⟩ q
    rw [List.getElem?_append_right (by rw [hk.len]; exact Nat.le_refl _)]
    simp [hk.len]⟩
theorem o_inN (F : Fam X P w K mg base N sc fv k) {i : Nat} {ks : List NestedKey} {gs : List (NestedKey × MV)} (hi : dnAt m w i gs) (hx : x = .d (NestedKey.tup ks).data) (hd : (NestedKey.tup ks).depth ≤ 8) (q : Q (.d (.bool (valN gs (.tup ks)).isSome)) m) : OpW X K (compareOp .In) x (.r i) m Q := fun π G H R u v hk ru rv wv => by
  subst hx
  obtain ⟨a, fs, rfl, ha, hR, rs⟩ := dn_realR hk rv hi
  obtain ⟨b, rfl, hb⟩ := nkey_real hd rfl ru
  refine ⟨rInN K w false, fun j => (show OpR (X j) _ _ by have := op_inN (X := X j) (un_of (F.room j) (by decide)); rw [F.cK, F.cW] at this; exact this), a, b, .tup ks, fs, rfl, rfl, hR, hb.mono hk.sub, wv _ (.d (.bool _)) π G H m Xt.refl hk ?_ q⟩
  show Da K G (.bl (valF fs (.tup ks)).isSome) _
  rw [rkn_some rs]
  exact Da.bl _
theorem o_notInN (F : Fam X P w K mg base N sc fv k) {i : Nat} {ks : List NestedKey} {gs : List (NestedKey × MV)} (hi : dnAt m w i gs) (hx : x = .d (NestedKey.tup ks).data) (hd : (NestedKey.tup ks).depth ≤ 8) (q : Q (.d (.bool (!(valN gs (.tup ks)).isSome))) m) : OpW X K (compareOp .NotIn) x (.r i) m Q := fun π G H R u v hk ru rv wv => by
  subst hx
  obtain ⟨a, fs, rfl, ha, hR, rs⟩ := dn_realR hk rv hi
  obtain ⟨b, rfl, hb⟩ := nkey_real hd rfl ru
  refine ⟨rInN K w true, fun j => (by have := op_notInN (X := X j) (un_of (F.room j) (by decide)); rw [F.cK, F.cW] at this; exact this), a, b, .tup ks, fs, rfl, rfl, hR, hb.mono hk.sub, wv _ (.d (.bool _)) π G H m Xt.refl hk ?_ q⟩
  show Da K G (.bl (!(valF fs (.tup ks)).isSome)) _
  rw [rkn_some rs]
  exact Da.bl _
theorem ix_dn (F : Fam X P w K mg base N sc fv k) {i : Nat} {ks : List NestedKey} {gs : List (NestedKey × MV)} (hi : dnAt m w i gs) (hx : x = .d (NestedKey.tup ks).data) (hd : (NestedKey.tup ks).depth ≤ 8) (hv : valN gs (.tup ks) = some y) (q : Q y m) : IxW X K (.r i) x m Q := fun π G H R u v hk ru rv wv => by
  subst hx
  obtain ⟨a, fs, rfl, ha, hR, rs⟩ := dn_realR hk ru hi
  obtain ⟨b, rfl, hb⟩ := nkey_real hd rfl rv
  obtain ⟨z, hz, rz⟩ := (rkn_val (kk := .tup ks) rs).2 y hv
  exact ⟨rIxN K w, fun j => (by have := ix_N (X := X j) (un_of (F.room j) (by decide)); rw [F.cK, F.cW] at this; exact this), a, b, .tup ks, fs, z, rfl, rfl, hR, hb.mono hk.sub, hz, wv z y π G H m Xt.refl hk rz q⟩
theorem setw_dn (F : Fam X P w K mg base N sc fv k) {i : Nat} {ks : List NestedKey} {gs : List (NestedKey × MV)} {Q : Mm → Prop} (hi : m[i]? = some (.dn w gs)) (hy : y = .d (NestedKey.tup ks).data) (hd : (NestedKey.tup ks).depth ≤ 8) (hl : gs.length < 100000) (q : Q (m.set i (.dn w (putN gs (.tup ks) x)))) : SetW X K (.r i) y x m Q := fun π G H R ov iv v hk ro ri rv wx => by
  subst hy
  obtain ⟨a, fs, rfl, ha, hW, rs⟩ := dn_realW hk ro hi
  obtain ⟨b, rfl, hb⟩ := nkey_real hd rfl ri
  exact ⟨rSetN K w, fun j => (by have := set_N (X := X j) (un_of (F.room j) (by decide)); rw [F.cK, F.cW] at this; exact this), a, b, .tup ks, fs, rfl, rfl, hW, hb.mono hk.sub, by rw [Paired.length rs]; exact hl, wx π G _ _ (Xt.write (List.mem_of_getElem? ha)) (hk.write ha (show Rob K G π (DnO w a (putF fs (.tup ks) b v)) (.dn w (putN gs (.tup ks) x)) from ⟨a, _, rfl, rkn_put hb rv rs⟩)) q⟩
/-- d.get(key, x) -/
theorem we_ngetD (F : Fam X P w K mg base N sc fv k) {o : Expr} {apos : Pos} (h : We X K o ρ m fun x m1 => ∃ i gs, x = .r i ∧ dnAt m1 w i gs ∧ We X K e ρ m1 fun y m2 => We X K f ρ m2 fun z m3 => ∃ gs' ks, dnAt m3 w i gs' ∧ y = .d (NestedKey.tup ks).data ∧ (NestedKey.tup ks).depth ≤ 8 ∧ Q ((valN gs' (.tup ks)).getD z) m3)
    (hst : ∀ env : Env, starEach [e, f] env = (false, eval e env) :: starEach [f] env := by intro _; rfl) (hst2 : ∀ env : Env, starEach [f] env = (false, eval f env) :: starEach [] env := by intro _; rfl) (hbase : ∀ env : Env, attributeBase o "get" env (eval o env) = eval o env := by intro _; rfl)
    (hfew : ∀ env : Env, ((backTo pos (starEach [e, f] env)).all (fun x => !x.1) && (backToKw pos (keywordEach [] env)).all (fun x => x.1.isSome) && decide ([e, f].length + ([] : List Keyword).length + (if ([] : List Keyword).isEmpty then 0 else 1) < 30)) = true := by intro _; rfl)
    (hline : (apos.endLine == pos.line) = true := by rfl) (hplain : ∀ env : Env, (backTo pos (starEach [f] env)).any (·.1) = false := by intro _; rfl) :
    We X K (.Call (.Attribute o "get" apos) [e, f] [] pos) ρ m Q := fun π G σ H R hk sk wv => by
  refine ⟨fun σ H Q => TeOf X o σ H fun x H1 => (∃ a fs, x = .ref a ∧ DnR K w H1 a fs) ∧ tCons (TeOf X e) (tCons (TeOf X f) tNil) σ H1 fun xs H2 => rGetN K w x xs H2 Q, fun j => ?_, h π G σ H _ hk sk fun v y π1 G1 H1 m1 e1 hk1 rv ⟨i, gs, ey, hi, q1⟩ => ?_⟩
  · have t := tyN (X := X j) (F.cW j)
    have g := mt_getN (X := X j) (un_of (F.room j) (by decide))
    rw [F.cK] at t
    rw [F.cK, F.cW] at g
    exact pe_bmX t PySem.F.plainAttrs_dict PySem.F.slot_dict_get PySem.F.type_dict_get g (teOf X o j) (pa_cons (teOf X e j) (pa_cons (teOf X f j) pa_nil (hst2 _)) (hst _)) (hbase _) (hfew _) hline (hst _) (hplain _)
  subst ey
  obtain ⟨a, fs, rfl, ha, hR, rs⟩ := dn_realR hk1 rv hi
  refine ⟨⟨a, fs, rfl, hR⟩, q1 π1 G1 σ H1 _ hk1 (sk.xt e1) fun u y π2 G2 H2 m2 e2 hk2 ru q2 => q2 π2 G2 σ H2 _ hk2 (sk.xt (e1.trans e2)) fun u3 z π3 G3 H3 m3 e3 hk3 rz ⟨gs', ks, hi', ey, hd, q3⟩ => ?_⟩
  subst ey
  obtain ⟨a', fs', ea, ha', hR', rs'⟩ := dn_realR hk3 (rv.xt (e2.trans e3)) hi'
  cases ea
  obtain ⟨b, rfl, hb⟩ := nkey_real hd rfl (ru.xt e3)
  refine ⟨a, b, .tup ks, fs', u3, rfl, rfl, hR', hb.mono hk3.sub, wv _ _ π3 G3 H3 m3 ((e1.trans e2).trans e3) hk3 ?_ q3⟩
  obtain ⟨h1, h2⟩ := rkn_val (kk := .tup ks) rs'
  cases ev : valN gs' (.tup ks) with
  | none => rw [h1 ev]; exact rz
  | some y => obtain ⟨v', hv, r⟩ := h2 y ev; rw [hv]; exact r
/-- d.get(key, x) of an int dict -/
theorem we_getD2 (F : Fam X P w K mg base N sc fv k) {o : Expr} {apos : Pos} (h : We X K o ρ m fun x m1 => ∃ i gs, x = .r i ∧ dctAt m1 i gs ∧ We X K e ρ m1 fun y m2 => We X K f ρ m2 fun z m3 => ∃ gs' kk, dctAt m3 i gs' ∧ y = keyM kk ∧ Q ((valM gs' kk).getD z) m3)
    (hM : ∀ j, M2 (X j) o "get" apos e f pos := by intro _; exact ⟨rfl, rfl, rfl, rfl⟩) : We X K (.Call (.Attribute o "get" apos) [e, f] [] pos) ρ m Q := fun π G σ H R hk sk wv => by
  refine ⟨_, fun j => pe_dget2 (un_of (F.room j) (by decide)) (teOf X o j) (teOf X e j) (teOf X f j) (hM j), h π G σ H _ hk sk fun u x π1 G1 H1 m1 e1 hk1 ru ⟨i, gs, ex, hi, q1⟩ => ?_⟩
  subst ex
  obtain ⟨a, fs, rfl, ha, hf, rs⟩ := dct_realR hk1 ru hi
  refine ⟨a, rfl, .inl ⟨fs, hf⟩, q1 π1 G1 σ H1 _ hk1 (sk.xt e1) fun v y π2 G2 H2 m2 e2 hk2 rv q2 => q2 π2 G2 σ H2 _ hk2 (sk.xt (e1.trans e2)) fun u3 z π3 G3 H3 m3 e3 hk3 rz ⟨gs', kk, hi', ey, q3⟩ => ?_⟩
  subst ey
  obtain ⟨a', fs', ea, ha', hf', rs'⟩ := dct_realR hk3 (ru.xt (e2.trans e3)) hi'
  cases ea
  obtain rfl := key_real rv
  refine ⟨_, .inl ⟨fs', kk, hf', rfl, rfl⟩, wv _ _ π3 G3 H3 m3 ((e1.trans e2).trans e3) hk3 ?_ q3⟩
  obtain ⟨h1, h2⟩ := rkv_val (k := kk) rs'
  cases ev : valM gs' kk with
  | none => rw [h1 ev]; exact rz
  | some y => obtain ⟨v', hv, r⟩ := h2 y ev; rw [hv]; exact r
theorem ix_dctR2 (F : Fam X P w K mg base N sc fv k) {i : Nat} {kk : Key} {gs : List (Key × MV)} (hi : dctAt m i gs) (hv : valM gs kk = some y) (q : Q y m) : IxW X K (.r i) (keyM kk) m Q := fun π G H R u v hk ru rv wv => by
  obtain ⟨a, fs, rfl, _, hf, rs⟩ := dct_realR hk ru hi
  obtain rfl := key_real rv
  obtain ⟨z, hz, rz⟩ := (rkv_val (k := kk) rs).2 y hv
  exact ⟨_, fun j => ix_dctR (un_of (F.room j) (by decide)), a, z, rfl, .inl ⟨fs, kk, hf, rfl, hz.symm⟩, wv z y π G H m Xt.refl hk rz q⟩
/-- del d[key] -/
theorem ws_delN (F : Fam X P w K mg base N sc fv k) {tpos : Pos} (h : We X K a ρ m fun x m1 => We X K b ρ m1 fun y m2 => ∃ i gs ks, x = .r i ∧ m2[i]? = some (.dn w gs) ∧ y = .d (NestedKey.tup ks).data ∧ (NestedKey.tup ks).depth ≤ 8 ∧ (valN gs (.tup ks)).isSome = true ∧ D.nx ρ (m2.set i (.dn w (dropN gs (.tup ks))))) : Ws1 X K (.Delete [.Subscript a b tpos] pos) ρ m D := fun π G σ H D' hk sk wd => by
  refine ⟨sDelN K w (TeOf X a) (TeOf X b), fun j => (by have := ps_delN (X := X j) (pos := pos) (tpos := tpos) (un_of (F.room j) (by decide)) (teOf X a j) (teOf X b j); rw [F.cK, F.cW] at this; exact this), h π G σ H _ hk sk fun u x π1 G1 H1 m1 e1 hk1 ru q1 => q1 π1 G1 σ H1 _ hk1 (sk.xt e1) fun v y π2 G2 H2 m2 e2 hk2 rv ⟨i, gs, ks, ex, hi, ey, hd, hs, q2⟩ => ?_⟩
  subst ex ey
  obtain ⟨a, fs, rfl, ha, hW, rs⟩ := dn_realW hk2 (ru.xt e2) hi
  obtain ⟨b, rfl, hb⟩ := nkey_real hd rfl rv
  have e12 := e1.trans e2
  exact ⟨a, b, .tup ks, fs, rfl, rfl, hW, hb.mono hk2.sub, by rw [rkn_some rs]; exact hs, wd.nx σ ρ π2 G2 _ _ (e12.trans (Xt.write (List.mem_of_getElem? ha))) (hk2.write ha (show Rob K G2 π2 (DnO w a (dropF fs (.tup ks))) (.dn w (dropN gs (.tup ks))) from ⟨a, _, rfl, rkn_drop rs⟩)) (sk.xt e12) q2⟩
/-- del d[key] of an int dict -/
theorem ws_delD (F : Fam X P w K mg base N sc fv k) {tpos : Pos} (h : We X K a ρ m fun x m1 => We X K b ρ m1 fun y m2 => ∃ i gs kk, x = .r i ∧ m2[i]? = some (.dct gs) ∧ y = keyM kk ∧ (valM gs kk).isSome = true ∧ D.nx ρ (m2.set i (.dct (dropMK gs kk)))) : Ws1 X K (.Delete [.Subscript a b tpos] pos) ρ m D := fun π G σ H D' hk sk wd => by
  refine ⟨sDDel (TeOf X a) (TeOf X b), fun j => ps_ddel (teOf X a j) (teOf X b j), h π G σ H _ hk sk fun u x π1 G1 H1 m1 e1 hk1 ru q1 => q1 π1 G1 σ H1 _ hk1 (sk.xt e1) fun v y π2 G2 H2 m2 e2 hk2 rv ⟨i, gs, kk, ex, hi, ey, hs, q2⟩ => ?_⟩
  subst ex ey
  obtain ⟨a, fs, rfl, ha, hf, rs⟩ := dct_real hk2 (ru.xt e2) hi
  obtain rfl := key_real rv
  have e12 := e1.trans e2
  refine ⟨a, fs, kk, rfl, hf, rfl, ?_, wd.nx σ ρ π2 G2 _ _ (e12.trans (Xt.write (List.mem_of_getElem? ha))) (hk2.write ha (show Rob K G2 π2 (.dK (dropK fs kk)) (.dct (dropMK gs kk)) from ⟨_, rfl, rkv_drop rs⟩)) (sk.xt e12) q2⟩
  obtain ⟨y, hy⟩ := Option.isSome_iff_exists.mp hs
  obtain ⟨z, hz, _⟩ := (rkv_val (k := kk) rs).2 y hy
  rw [hz]; rfl
/-! locks -/
def MutM : MO → Prop
  | .dct _ => True
  | .dn _ _ => True
  | _ => False
theorem mut_real {u : HO} {o : MO} {π : List Addr} {G : Hp} (h : MutM o) (r : Rob K G π u o) : Mut (some u) := by
  cases o with
  | dct gs => obtain ⟨fs, e, _⟩ := r; subst e; exact True.intro
  | dn w gs => obtain ⟨a, fs, e, _⟩ := r; subst e; exact True.intro
  | lst _ => exact h.elim
  | ins _ _ => exact h.elim
  | dtp _ => exact h.elim
  | o _ => exact h.elim
  | xdo _ => exact h.elim
  | fz _ _ _ => exact h.elim
theorem unlock {π π' : List Addr} {G H G' H' : Hp} {i : Nat} {a0 : Addr} {o : Obj} {u : HO} {mo : MO} {m' : Mm} (ha : π[i]? = some a0) (e : Xt π G H π' G' H') (hk : Hk K π' G' H' m') (hi : m'[i]? = some (.fz o u mo)) :
    H' a0 = some (.frz o u) ∧ Xt π G H π' G' (upd H' a0 u) ∧ Hk K π' G' (upd H' a0 u) (m'.set i mo) := by
  obtain ⟨a', v, h1, h2, eu, r⟩ := hk.obj i _ hi
  rw [e.get ha] at h1; cases h1
  subst eu
  exact ⟨h2, e.trans (Xt.write (List.mem_of_getElem? (e.get ha))), hk.write (e.get ha) r⟩
theorem ws_lock {i : Nat} {mo : MO} (hi : m[i]? = some mo) (hm : MutM mo) (h : ∀ o u, Ws1 X K st ρ (m.set i (.fz o u mo)) { nx := fun ρ' m' => m'[i]? = some (.fz o u mo) ∧ D.nx ρ' (m'.set i mo), rt := fun x m' => m'[i]? = some (.fz o u mo) ∧ D.rt x (m'.set i mo), bk := fun ρ' m' => m'[i]? = some (.fz o u mo) ∧ D.bk ρ' (m'.set i mo), ct := fun ρ' m' => m'[i]? = some (.fz o u mo) ∧ D.ct ρ' (m'.set i mo) }) : Ws1 X K st ρ m D := fun π G σ H D' hk sk wd => by
  obtain ⟨a0, u, ha, hH, r⟩ := hk.obj i _ hi
  refine ⟨tLock (TsOf X st), fun j => ps_lock (tsOf X st j), a0, u, hH, mut_real hm r, fun od => ?_⟩
  have e0 : Xt π G H π G (upd H a0 (.frz od u)) := Xt.write (List.mem_of_getElem? ha)
  refine h od u π G σ _ _ (hk.write ha (show Rob K G π (.frz od u) (.fz od u mo) from ⟨rfl, r⟩)) sk ⟨?_, ?_, ?_, ?_, fun j => (wd.ex j).imp fun _ _ _ _ ⟨C, fo, ρ', π', G', m', _, _, _, _, _, _, z⟩ => z.elim⟩
  · intro σ' ρ' π' G' H' m' e hk' sk' ⟨q1, q2⟩
    obtain ⟨g1, g2, g3⟩ := unlock ha e hk' q1
    exact ⟨g1, wd.nx σ' ρ' π' G' _ _ (e0.trans g2) g3 sk' q2⟩
  · intro v x π' G' H' m' e hk' rv ⟨q1, q2⟩
    obtain ⟨g1, g2, g3⟩ := unlock ha e hk' q1
    exact ⟨g1, wd.rt v x π' G' _ _ (e0.trans g2) g3 rv q2⟩
  · intro σ' ρ' π' G' H' m' e hk' sk' ⟨q1, q2⟩
    obtain ⟨g1, g2, g3⟩ := unlock ha e hk' q1
    exact ⟨g1, wd.bk σ' ρ' π' G' _ _ (e0.trans g2) g3 sk' q2⟩
  · intro σ' ρ' π' G' H' m' e hk' sk' ⟨q1, q2⟩
    obtain ⟨g1, g2, g3⟩ := unlock ha e hk' q1
    exact ⟨g1, wd.ct σ' ρ' π' G' _ _ (e0.trans g2) g3 sk' q2⟩
theorem we_lock {i : Nat} {mo : MO} (hi : m[i]? = some mo) (hm : MutM mo) (h : ∀ o u, We X K e ρ (m.set i (.fz o u mo)) fun x m' => m'[i]? = some (.fz o u mo) ∧ Q x (m'.set i mo)) : We X K e ρ m Q := fun π G σ H R hk sk wv => by
  obtain ⟨a0, u, ha, hH, r⟩ := hk.obj i _ hi
  refine ⟨tLockE (TeOf X e), fun j => pe_lock (teOf X e j), a0, u, hH, mut_real hm r, fun od => ?_⟩
  have e0 : Xt π G H π G (upd H a0 (.frz od u)) := Xt.write (List.mem_of_getElem? ha)
  refine h od u π G σ _ _ (hk.write ha (show Rob K G π (.frz od u) (.fz od u mo) from ⟨rfl, r⟩)) sk fun v x π' G' H' m' e hk' rv ⟨q1, q2⟩ => ?_
  obtain ⟨g1, g2, g3⟩ := unlock ha e hk' q1
  exact ⟨g1, wv v x π' G' _ _ (e0.trans g2) g3 rv q2⟩
/-! walks of locked dicts -/
theorem wi_keysN (F : Fam X P w K mg base N sc fv k) {Q : List MV → (Mm → Prop) → Mm → Prop} (h : We X K e ρ m fun x m1 => ∃ i o u gs, x = .r i ∧ m1[i]? = some (.fz o u (.dn w gs)) ∧ Q (gs.map fun p => .d p.1.data) (fun m' => m'[i]? = some (.fz o u (.dn w gs))) m1) : Wi X K tg e ρ m Q := fun π G σ H R hk sk wr => by
  refine ⟨iKeysN K w (TeOf X e), fun j => (by have := pi_keysN (X := X j) (tg := tg) (teOf X e j); rw [F.cK, F.cW] at this; exact this), h π G σ H _ hk sk fun v x π1 G1 H1 m1 e1 hk1 rv ⟨i, o, u, gs, ex, hi, q⟩ => ?_⟩
  subst ex
  obtain ⟨a, ha, rfl⟩ := rv
  obtain ⟨a', v', h1, h2, eu, d, fs, eu2, rs⟩ := hk1.obj i _ hi
  rw [ha] at h1; cases h1
  subst eu eu2
  refine ⟨a, o, fs, rfl, ⟨⟨d, h2⟩, fun p hp => (rkn_keys rs p hp).mono hk1.sub⟩, wr (Itkn K w a o fs) _ _ π1 G1 H1 m1 e1 hk1 (fun π2 G2 H2 m2 e2 hk2 gd => ?_) q⟩
  obtain ⟨b', v2, h3, h4, eu3, _⟩ := hk2.obj i _ gd
  rw [e2.get ha] at h3; cases h3
  subst eu3
  have l2 := Paired.length rs
  have kk : DnF K w H2 a o fs := ⟨⟨d, h4⟩, fun p hp => ((rkn_keys rs p hp).mono e2.g).mono hk2.sub⟩
  refine ⟨fun n hn => ⟨kk, by rw [List.length_map] at hn; omega⟩, ⟨kk, by rw [List.length_map]; omega⟩, fun n v' H3 hn y => ?_⟩
  obtain ⟨eh, p, hp, ev⟩ := y
  subst eh ev
  obtain ⟨q, hq, r⟩ := paired_get rs hp
  refine ⟨.d q.1.data, G2, by rw [List.getElem?_map, hq]; rfl, Xt.refl, hk2, ?_⟩
  rw [← r.1]
  exact da_mono e2.g r.2.2.1
theorem wi_keysD (F : Fam X P w K mg base N sc fv k) {Q : List MV → (Mm → Prop) → Mm → Prop} (h : We X K e ρ m fun x m1 => ∃ i o u gs, x = .r i ∧ m1[i]? = some (.fz o u (.dct gs)) ∧ Q (gs.map fun p => keyM p.1) (fun m' => m'[i]? = some (.fz o u (.dct gs))) m1) : Wi X K tg e ρ m Q := fun π G σ H R hk sk wr => by
  refine ⟨iKeys (TeOf X e), fun j => pi_keys (teOf X e j), h π G σ H _ hk sk fun v x π1 G1 H1 m1 e1 hk1 rv ⟨i, o, u, gs, ex, hi, q⟩ => ?_⟩
  subst ex
  obtain ⟨a, ha, rfl⟩ := rv
  obtain ⟨a', v', h1, h2, eu, fs, eu2, rs⟩ := hk1.obj i _ hi
  rw [ha] at h1; cases h1
  subst eu eu2
  refine ⟨a, o, rfl, .inl ⟨fs, h2, wr (Itk a o fs) _ _ π1 G1 H1 m1 e1 hk1 (fun π2 G2 H2 m2 e2 hk2 gd => ?_) q⟩⟩
  obtain ⟨b', v2, h3, h4, eu3, _⟩ := hk2.obj i _ gd
  rw [e2.get ha] at h3; cases h3
  subst eu3
  have l2 := Paired.length rs
  refine ⟨fun n hn => ⟨h4, by rw [List.length_map] at hn; omega⟩, ⟨h4, by rw [List.length_map]; omega⟩, fun n v' H3 hn y => ?_⟩
  obtain ⟨eh, kk, vv, hp, ev⟩ := y
  subst eh ev
  obtain ⟨q, hq, r⟩ := paired_get rs hp
  refine ⟨keyM q.1, G2, by rw [List.getElem?_map, hq]; rfl, Xt.refl, hk2, ?_⟩
  rw [← (show kk = q.1 from r.1)]
  exact key_rv kk
/-! comprehensions -/
def DcW (X : ι → Cx) (K : PySem.W.Frag) (w : World) (scope : Scope) (own : List (Str × Nat)) (tg it : Expr) (ifs : List Expr) (kx vx : Expr) (ρ : Ro) (m : Mm) (Q : QV) : Prop :=
  Wi X K tg it ρ m fun xs gd m1 => xs.length ≤ 100000 ∧ ∃ I : Nat → List (NestedKey × MV) → Mm → Prop, I 0 [] m1 ∧ (∀ i acc m', i ≤ xs.length → I i acc m' → gd m') ∧
    (∀ i x acc m', xs[i]? = some x → I i acc m' → Wg (Blk X scope) K (fun k => k ∈ own.map (·.2)) tg x (wipeM ρ (own.map (·.2))) m' fun ρ2 m2 => Wts (Blk X scope) K ifs ρ2 m2 fun b m3 =>
      if b = true then We (Blk X scope) K kx ρ2 m3 fun y m4 => We (Blk X scope) K vx ρ2 m4 fun z m5 => ∃ ks, y = .d (NestedKey.tup ks).data ∧ (NestedKey.tup ks).depth ≤ 8 ∧ I (i + 1) (putN acc (.tup ks) z) m5 else I (i + 1) acc m3) ∧ ∀ acc m', I xs.length acc m' → Q (.r m'.length) (m' ++ [.dn w acc])
theorem dc_reads {scope : Scope} {own : List (Str × Nat)} {ifs : List Expr} {π : List Addr} {G H : Hp} {σ : L2.St} {R : VK} (h : DcW X K w scope own tg it ifs kx vx ρ m Q) (hk : Hk K π G H m) (sk : Sk K π G σ ρ) (wv : Wv K π G H Q R) :
    tDcN K w (TiOf X tg it) (TgOf (Blk X scope) tg) (TtsOf (Blk X scope) ifs) (TeOf (Blk X scope) kx) (TeOf (Blk X scope) vx) (own.map (·.2)) σ H R := by
  refine h π G σ H _ hk sk fun J xs gd π1 G1 H1 m1 e1 hk1 ok ⟨hz, I, h0, hg, hb, hd⟩ D hD => ?_
  have wv1 := wv.xt e1
  have sk1 := sk.xt e1
  have gD := hk1.sub.free hD
  have nD := hk1.nin hD
  refine ⟨fun i mm H' => mm = xs.length - i ∧ i ≤ xs.length ∧ ∃ π' G' m' acc fs, Xt π1 G1 H1 π' G' H' ∧ Hk K π' G' H' m' ∧ H' D = some (DnO w D fs) ∧ G' D = none ∧ D ∉ π' ∧ Paired (Rkn K G' π') fs acc ∧ fs.length ≤ i ∧ I i acc m',
    ⟨_, rfl, Nat.zero_le _, π1, G1, m1, [], [], Xt.refl.other hD, hk1.other nD gD, upd_same, gD, nD, .nil, Nat.le_refl _, h0⟩, ?_⟩
  rintro i mm H2 ⟨rfl, hi, π2, G2, m2, acc, fs, e2, hk2, d2, g2, n2, r2, l2, hI⟩
  obtain ⟨go, stop, yl⟩ := ok π2 G2 H2 m2 e2 hk2 (hg i acc m2 hi hI)
  by_cases hlt : i < xs.length
  · refine .inr ⟨go i hlt, fun H' => ∃ π' G' m' acc fs, Xt π1 G1 H1 π' G' H' ∧ Hk K π' G' H' m' ∧ H' D = some (DnO w D fs) ∧ G' D = none ∧ D ∉ π' ∧ Paired (Rkn K G' π') fs acc ∧ fs.length ≤ i + 1 ∧ I (i + 1) acc m', fun H' q => ⟨xs.length - (i + 1), by omega, rfl, hlt, q⟩, fun v H3 y => ?_⟩
    obtain ⟨x, G3, hx, e3, hk3, rx⟩ := yl i v H3 hlt y
    refine hb i x acc m2 hx hI π2 G3 _ H3 _ v hk3 (((sk1.xt e2).wipe _).xt e3) rx fun σ4 ρ4 π4 G4 H4 m4 e4 hk4 sk4 l4 f4 q4 => ⟨?_, ?_⟩
    · refine wipe_eq _ (by rw [l4, wipe_length]) fun j hj => ?_
      rw [f4 j hj, wipe_get hj]
    · refine q4 π4 G4 σ4 H4 _ hk4 sk4 fun b π5 G5 H5 m5 e5 hk5 q5 => ?_
      have e25 := (e3.trans e4).trans e5
      have keep : ∀ {π' : List Addr} {G' H' : Hp}, Xt π2 G2 H2 π' G' H' → H' D = some (DnO w D fs) ∧ G' D = none ∧ D ∉ π' := fun {π' G' H'} e => by
        refine ⟨e.fr D _ d2 n2, e.n D _ d2 n2 (fun _ z => by cases z) g2, fun hm => ?_⟩
        obtain ⟨τ, et, ft⟩ := e.p
        rw [et] at hm
        rcases List.mem_append.mp hm with hm | hm
        · exact n2 hm
        · rw [ft D hm] at d2; cases d2
      have rmono : ∀ {π' : List Addr} {G' H' : Hp}, Xt π2 G2 H2 π' G' H' → Paired (Rkn K G' π') fs acc := fun {π' G' H'} e => Paired.mapP r2 fun _ _ z => ⟨z.1, z.2.1, da_mono e.g z.2.2.1, z.2.2.2.xt e⟩
      cases b with
      | true =>
        rw [if_pos rfl] at q5 ⊢
        refine q5 π5 G5 σ4 H5 _ hk5 (sk4.xt e5) fun u y π6 G6 H6 m6 e6 hk6 ru q6 => q6 π6 G6 σ4 H6 _ hk6 (sk4.xt (e5.trans e6)) fun u7 z π7 G7 H7 m7 e7 hk7 rz ⟨ks, ey, hdp, q7⟩ => ?_
        subst ey
        have e27 := (e25.trans e6).trans e7
        obtain ⟨k1, k2, k3⟩ := keep e27
        obtain ⟨b, rfl, hb⟩ := nkey_real hdp rfl (ru.xt e7)
        have r7 := rmono e27
        refine ⟨b, .tup ks, fs, rfl, ⟨⟨D, k1⟩, fun p hp => (rkn_keys r7 p hp).mono hk7.sub⟩, hb.mono hk7.sub, Nat.lt_of_le_of_lt l2 (by omega), π7, G7, m7, putN acc (.tup ks) z, putF fs (.tup ks) b u7, (e2.trans e27).other hD, hk7.other k3 k2, upd_same, k2, k3, rkn_put hb rz r7, ?_, q7⟩
        have := putF_len fs (.tup ks) b u7
        omega
      | false =>
        rw [if_neg Bool.false_ne_true] at q5 ⊢
        obtain ⟨k1, k2, k3⟩ := keep e25
        exact ⟨π5, G5, m5, acc, fs, e2.trans e25, hk5, k1, k2, k3, rmono e25, by omega, q5⟩
  · have e : i = xs.length := by omega
    subst e
    have mo : ∀ (i : Nat) (c : Addr), π2[i]? = some c → (π2 ++ [D])[i]? = some c := fun i c q => by
      rw [List.getElem?_append_left (by
        by_cases z : i < π2.length
        · exact z
        · rw [List.getElem?_eq_none (by omega)] at q; cases q)]
      exact q
    refine .inl ⟨stop, wv1 _ (.r m2.length) (π2 ++ [D]) G2 H2 _ ⟨e2.g, ?_, e2.fr, e2.al, e2.n⟩ (hk2.own d2 n2 g2 (show Rob K G2 (π2 ++ [D]) (DnO w D fs) (.dn w acc) from ⟨D, fs, rfl, Paired.mapP r2 fun _ _ z => ⟨z.1, z.2.1, z.2.2.1, z.2.2.2.mono (Same.refl _) mo⟩⟩)) ⟨D, ?_, rfl⟩ (hd acc m2 hI)⟩
    · obtain ⟨τ, et, ft⟩ := e2.p
      refine ⟨τ ++ [D], by rw [et, List.append_assoc], fun a ha => ?_⟩
      rcases List.mem_append.mp ha with ha | ha
      · exact ft a ha
      · simp at ha; rw [ha]; exact hD
    · rw [List.getElem?_append_right (by rw [hk2.len]; exact Nat.le_refl _)]
      simp [hk2.len]
theorem we_dcN (F : Fam X P w K mg base N sc fv k) {scope : Scope} (own : List (Str × Nat)) {ifs : List Expr} (h : DcW X K w scope own tg it ifs kx vx ρ m Q) (ok : blkC N sc scope own = true := by decide +kernel)
    (hs : ∀ (env : Env) x, foldedSetIterable it env x = pure x := by intro _ _; rfl) : We X K (.DictComp kx vx [⟨tg, it, ifs, 0⟩] scope pos) ρ m Q := fun π G σ H R hk sk wv =>
  ⟨_, fun j => (by
    have := pe_dcN (X := X j) (pos := pos) (un_of (F.room j) (by decide)) (F.calm j) (by rw [F.cN]; exact F.nd) (tiOf X tg it j) (blk_ok F ok j) (fun s H C cl fp => tgOf (Blk X scope) tg (j, s, H, C, cl, fp)) (fun s H C cl fp => ttsOf (Blk X scope) ifs (j, s, H, C, cl, fp)) (fun s H C cl fp => teOf (Blk X scope) kx (j, s, H, C, cl, fp)) (fun s H C cl fp => teOf (Blk X scope) vx (j, s, H, C, cl, fp)) (hs _)
    rw [F.cK, F.cW] at this; exact this), dc_reads h hk sk wv⟩
theorem ws_setDcN (F : Fam X P w K mg base N sc fv k) (i : Nat) {scope : Scope} (own : List (Str × Nat)) {ifs : List Expr} {nm : Str} {py spos : Pos} (h : DcW X K w scope own tg it ifs kx vx ρ m fun x m' => D.nx (ρ.set i (some x)) m') (ok : blkC N sc scope own = true := by decide +kernel)
    (hN : N[i]? = some nm := by rfl) (hl : sc.names.lookup nm = some .local := by rfl) (hk0 : sc.kind = .function := by rfl) (hln : (py.line == pos.line) = true := by rfl) (ha : (scope.names.any fun (n, k) => n == nm && (k == .local || k == .cell)) = false := by decide +kernel)
    (hs : ∀ (env : Env) x, foldedSetIterable it env x = pure x := by intro _ _; rfl) : Ws1 X K (.Assign [.Name nm py] (.DictComp kx vx [⟨tg, it, ifs, 0⟩] scope pos) spos) ρ m D := fun π G σ H D' hk sk wd =>
  ⟨_, fun j => (by
    have := ps_setDcN (X := X j) (pos := pos) (i := i) (py := py) (spos := spos) (un_of (F.room j) (by decide)) (F.calm j) (by rw [F.cN]; exact F.nd) (by rw [F.cN]; exact hN) (by rw [F.cS]; exact hl) (swd_true (by rw [F.cS]; exact hk0) (by rw [F.cS]; exact hl) hln ha) (tiOf X tg it j) (blk_ok F ok j)
      (fun s H C cl fp => tgOf (Blk X scope) tg (j, s, H, C, cl, fp)) (fun s H C cl fp => ttsOf (Blk X scope) ifs (j, s, H, C, cl, fp)) (fun s H C cl fp => teOf (Blk X scope) kx (j, s, H, C, cl, fp)) (fun s H C cl fp => teOf (Blk X scope) vx (j, s, H, C, cl, fp)) (hs _)
    rw [F.cK, F.cW] at this; exact this),
    dc_reads h hk sk fun v x π1 G1 H1 m1 e1 hk1 rv q1 => wd.nx _ _ π1 G1 H1 m1 e1 hk1 ((sk.xt e1).set rv i) q1⟩
/-! sorted(d), the keys tuples of ints -/
def tkN (n : List Int) : NestedKey := .tup (n.map .num)
theorem datas_ints : ∀ n : List Int, NestedKey.datas (n.map .num) = n.map PyData.int
  | [] => by simp [NestedKey.datas]
  | i :: n => by rw [List.map_cons, NestedKey.datas, datas_ints n, NestedKey.data]; rfl
theorem data_tkN (n : List Int) : (tkN n).data = .tuple (n.map .int) := by unfold tkN; rw [NestedKey.data, datas_ints]
theorem keys_tkN {π : List Addr} {G : Hp} : ∀ {fs : List (NestedKey × Addr × V)} {gs : List (NestedKey × MV)} {ns : List (List Int)}, Paired (Rkn K G π) fs gs → gs.map (·.1) = ns.map tkN → ∃ L : List (Addr × List Int), fs.map (·.2.1) = L.map (·.1) ∧ L.map (·.2) = ns ∧ ∀ q ∈ L, SqT K G q.1 (q.2.map V.int)
  | _, _, [], .nil, _ => ⟨[], rfl, rfl, by simp⟩
  | _, _, _ :: _, .nil, h => by cases h
  | _, _, [], .cons _ _, h => by cases h
  | _, _, n :: ns, .cons (a := p) (b := q) r t, h => by
    rw [List.map_cons, List.map_cons] at h
    injection h with h1 h2
    obtain ⟨L, f1, f2, f3⟩ := keys_tkN t h2
    refine ⟨(p.2.1, n) :: L, by rw [List.map_cons, f1]; rfl, by rw [← f2]; rfl, fun z hz => ?_⟩
    rcases List.mem_cons.mp hz with rfl | hz
    · have := r.2.2.1
      rw [r.1, h1, data_tkN] at this
      obtain ⟨b, xs, e, hs, dt⟩ := Da.tupI this
      cases e
      rw [ints_da dt] at hs
      exact hs
    · exact f3 z hz
theorem b_sortedN (F : Fam X P w K mg base N sc fv k) (B : Bt mg) {d : Nat} {Bn : Int} (h : We X K e ρ m fun x m1 => ∃ i gs ns, x = .r i ∧ dnAt m1 w i gs ∧ gs.map (·.1) = ns.map tkN ∧ ns.length < 64 ∧ 1 ≤ d ∧ (∀ t ∈ ns, t.length = d ∧ TS.Bd Bn t) ∧ ∀ us : List (List Int), us.Perm ns → us.Pairwise (fun s t => TS.code Bn s ≤ TS.code Bn t) → NewL (tsM us) m1 Q)
    (hg : sc.names.lookup ("sorted" : Str) = some .globalImplicit := by rfl) (he : ∀ env : Env, starEach [e] env = (false, eval e env) :: starEach [] env := by intro _; rfl) (hpl : ∀ env : Env, (backTo pos (starEach [] env)).any (·.1) = false := by intro _; rfl) :
    We X K (.Call (.Name "sorted" p) [e] [] pos) ρ m Q := we_callB F (wr_cons (h.mono fun x m1 ⟨i, gs, ns, ex, hi, hns, hl, hd, hB, q⟩ => by
      subst ex
      refine wr_nil fun π G H R vs hk rs wv => ?_
      obtain ⟨v, rfl, rv⟩ := rvs1 rs
      obtain ⟨a, fs, rfl, ha, hR, r⟩ := dn_realR hk rv hi
      obtain ⟨L, f1, f2, f3⟩ := keys_tkN r hns
      have lf : fs.length < 64 := by
        rw [Paired.length r]
        have := congrArg List.length hns
        rw [List.length_map, List.length_map] at this
        omega
      refine ⟨rSortN K w d Bn, fun j => (by have := cr_sortedN (X := X j) (F.room j) (F.calm j) (d := d) (B := Bn) hd; rw [F.cK, F.cW] at this; exact this), a, fs, L, rfl, hR, f1, fun z hz => Same.tupq hk.sub (f3 z hz), lf, fun z hz => hB _ (by rw [← f2]; exact List.mem_map.mpr ⟨z, hz, rfl⟩), fun L' pa pm pw hp => ?_⟩
      exact newl hk hp (keys_pair L' fun z hz => f3 z (pm.mem_iff.mp hz)) (q (L'.map (·.2)) (by rw [← f2]; exact pm.map _) (by rw [List.pairwise_map]; exact pw)) wv) he) B.sorted bo_sorted hg (by decide) (by decide) he hpl
end
end Wn
set_option Elab.async false
set_option linter.all false
set_option maxRecDepth 100000
set_option maxHeartbeats 2000000
set_option autoImplicit false
namespace Wn
open PySem L2
/-! ### lists of pairs as tables -/
section
variable {κ α : Type} [DecidableEq κ]
def aget (l : List (κ × α)) (k : κ) : Option α := (l.find? fun p => decide (p.1 = k)).map (·.2)
def aput (l : List (κ × α)) (k : κ) (v : α) : List (κ × α) := if (aget l k).isSome = true then l.map (fun p => if p.1 = k then (p.1, v) else p) else l ++ [(k, v)]
def adel (l : List (κ × α)) (k : κ) : List (κ × α) := l.filter fun p => decide (p.1 ≠ k)
theorem aget_nil (k : κ) : aget ([] : List (κ × α)) k = none := rfl
theorem aget_cons (p : κ × α) (l : List (κ × α)) (k : κ) : aget (p :: l) k = if p.1 = k then some p.2 else aget l k := by
  unfold aget
  rw [List.find?_cons]
  by_cases h : p.1 = k <;> simp [h]
theorem aget_some_mem {l : List (κ × α)} {k : κ} {v : α} (h : aget l k = some v) : (k, v) ∈ l := by
  induction l with
  | nil => cases h
  | cons p l ih =>
    rw [aget_cons] at h
    by_cases e : p.1 = k
    · rw [if_pos e] at h; cases h; subst e; exact List.mem_cons_self
    · rw [if_neg e] at h; exact List.mem_cons_of_mem _ (ih h)
theorem aget_isSome {l : List (κ × α)} {k : κ} : (aget l k).isSome = true ↔ k ∈ l.map (·.1) := by
  induction l with
  | nil => simp [aget]
  | cons p l ih =>
    rw [aget_cons, List.map_cons, List.mem_cons]
    by_cases e : p.1 = k
    · rw [if_pos e]; simp [e]
    · rw [if_neg e, ih]; simp [Ne.symm e]
theorem aget_map_repl (l : List (κ × α)) (k j : κ) (v : α) : aget (l.map fun p => if p.1 = k then (p.1, v) else p) j = if j = k then (aget l k).map (fun _ => v) else aget l j := by
  induction l with
  | nil => simp [aget]
  | cons p l ih =>
    rw [List.map_cons, aget_cons, aget_cons, aget_cons, ih]
    by_cases e : p.1 = k
    · simp only [if_pos e]
      by_cases ej : j = k
      · subst ej; simp [e]
      · simp only [if_neg ej]
        rw [if_neg (fun z => ej (z.symm.trans e)), if_neg (fun z => ej (z.symm.trans e))]
    · simp only [if_neg e]
      by_cases ej : j = k
      · subst ej; simp [e]
      · simp only [if_neg ej]
theorem aget_append (l r : List (κ × α)) (j : κ) : aget (l ++ r) j = (aget l j).or (aget r j) := by
  induction l with
  | nil => simp [aget]
  | cons p l ih =>
    rw [List.cons_append, aget_cons, aget_cons, ih]
    split <;> rfl
theorem aget_put (l : List (κ × α)) (k j : κ) (v : α) : aget (aput l k v) j = if j = k then some v else aget l j := by
  unfold aput
  by_cases h : (aget l k).isSome = true
  · rw [if_pos h, aget_map_repl]
    by_cases e : j = k
    · rw [if_pos e, if_pos e]
      obtain ⟨y, hy⟩ := Option.isSome_iff_exists.mp h
      rw [hy]; rfl
    · rw [if_neg e, if_neg e]
  · rw [if_neg h, aget_append]
    have hn : aget l k = none := by cases q : aget l k with | none => rfl | some y => rw [q] at h; exact absurd rfl h
    by_cases e : j = k
    · subst e; rw [hn]; simp [aget_cons]
    · rw [if_neg e, aget_cons, if_neg (fun z => e z.symm)]; simp [aget]
theorem aput_len (l : List (κ × α)) (k : κ) (v : α) : (aput l k v).length ≤ l.length + 1 := by
  unfold aput
  split <;> simp
theorem adel_len (l : List (κ × α)) (k : κ) : (adel l k).length ≤ l.length := List.length_filter_le _ _
theorem aget_del (l : List (κ × α)) (k j : κ) : aget (adel l k) j = if j = k then none else aget l j := by
  induction l with
  | nil => simp [aget, adel]
  | cons p l ih =>
    unfold adel at ih ⊢
    rw [List.filter_cons]
    by_cases e : p.1 = k
    · rw [if_neg (by simp [e]), ih, aget_cons]
      by_cases ej : j = k
      · rw [if_pos ej, if_pos ej]
      · rw [if_neg ej, if_neg ej, if_neg (fun z => ej (z.symm.trans e))]
    · rw [if_pos (by simp [e]), aget_cons, ih, aget_cons]
      by_cases ej : j = k
      · rw [if_pos ej, if_pos ej, if_neg (fun z => e (z.trans ej))]
      · rw [if_neg ej, if_neg ej]
end
/-! embedded in the store's dicts -/
section
variable {κ α : Type} [DecidableEq κ] {e : κ → NestedKey} {f : α → MV} {g : κ → Key}
def mapN (e : κ → NestedKey) (f : α → MV) (l : List (κ × α)) : List (NestedKey × MV) := l.map fun p => (e p.1, f p.2)
def mapK (g : κ → Key) (f : α → MV) (l : List (κ × α)) : List (Key × MV) := l.map fun p => (g p.1, f p.2)
theorem mapN_val (he : ∀ a b, e a = e b → a = b) (l : List (κ × α)) (k : κ) : valN (mapN e f l) (e k) = (aget l k).map f := by
  induction l with
  | nil => rfl
  | cons p l ih =>
    unfold mapN at ih ⊢
    rw [List.map_cons, aget_cons]
    by_cases h : p.1 = k
    · rw [if_pos h]; simp [valN, List.find?_cons, h]
    · rw [if_neg h, ← ih]; simp [valN, List.find?_cons, show ¬ e p.1 = e k from fun z => h (he _ _ z)]
theorem mapN_put (he : ∀ a b, e a = e b → a = b) (l : List (κ × α)) (k : κ) (v : α) : putN (mapN e f l) (e k) (f v) = mapN e f (aput l k v) := by
  unfold putN aput
  rw [mapN_val he, Option.isSome_map]
  by_cases h : (aget l k).isSome = true
  · rw [if_pos h, if_pos h]
    unfold mapN
    rw [List.map_map, List.map_map]
    refine List.map_congr_left fun p _ => ?_
    show (if e p.1 = e k then (e p.1, f v) else (e p.1, f p.2)) = (fun p : κ × α => (e p.1, f p.2)) (if p.1 = k then (p.1, v) else p)
    by_cases hp : p.1 = k
    · rw [if_pos hp, if_pos (congrArg e hp)]
    · rw [if_neg hp, if_neg (fun z => hp (he _ _ z))]
  · rw [if_neg h, if_neg h]; unfold mapN; rw [List.map_append]; rfl
theorem mapN_del (he : ∀ a b, e a = e b → a = b) (l : List (κ × α)) (k : κ) : dropN (mapN e f l) (e k) = mapN e f (adel l k) := by
  unfold dropN adel mapN
  rw [List.filter_map]
  congr 1
  refine List.filter_congr fun p _ => ?_
  show decide (e p.1 ≠ e k) = decide (p.1 ≠ k)
  by_cases hp : p.1 = k
  · simp [hp]
  · simp [hp, show ¬ e p.1 = e k from fun z => hp (he _ _ z)]
theorem mapK_val (he : ∀ a b, g a = g b → a = b) (l : List (κ × α)) (k : κ) : valM (mapK g f l) (g k) = (aget l k).map f := by
  induction l with
  | nil => rfl
  | cons p l ih =>
    unfold mapK at ih ⊢
    rw [List.map_cons, aget_cons]
    by_cases h : p.1 = k
    · rw [if_pos h]; simp [valM, List.find?_cons, h]
    · rw [if_neg h, ← ih]; simp [valM, List.find?_cons, show ¬ g p.1 = g k from fun z => h (he _ _ z)]
theorem valM_some (gs : List (Key × MV)) (k : Key) : (gs.any fun kv => decide (kv.1 = k)) = (valM gs k).isSome := by
  unfold valM
  rw [Option.isSome_map]
  induction gs with
  | nil => rfl
  | cons p r ih =>
    rw [List.find?_cons, List.any_cons]
    cases h : decide (p.1 = k)
    · rw [Bool.false_or]; exact ih
    · rfl
theorem mapK_put (he : ∀ a b, g a = g b → a = b) (l : List (κ × α)) (k : κ) (v : α) : putMK (mapK g f l) (g k) (f v) = mapK g f (aput l k v) := by
  unfold putMK aput
  rw [valM_some, mapK_val he, Option.isSome_map]
  by_cases h : (aget l k).isSome = true
  · rw [if_pos h, if_pos h]
    unfold mapK
    rw [List.map_map, List.map_map]
    refine List.map_congr_left fun p _ => ?_
    show (if g p.1 = g k then (g p.1, f v) else (g p.1, f p.2)) = (fun p : κ × α => (g p.1, f p.2)) (if p.1 = k then (p.1, v) else p)
    by_cases hp : p.1 = k
    · rw [if_pos hp, if_pos (congrArg g hp)]
    · rw [if_neg hp, if_neg (fun z => hp (he _ _ z))]
  · rw [if_neg h, if_neg h]; unfold mapK; rw [List.map_append]; rfl
theorem mapK_del (he : ∀ a b, g a = g b → a = b) (l : List (κ × α)) (k : κ) : dropMK (mapK g f l) (g k) = mapK g f (adel l k) := by
  unfold dropMK adel mapK
  rw [List.filter_map]
  congr 1
  refine List.filter_congr fun p _ => ?_
  show decide (g p.1 ≠ g k) = decide (p.1 ≠ k)
  by_cases hp : p.1 = k
  · simp [hp]
  · simp [hp, show ¬ g p.1 = g k from fun z => hp (he _ _ z)]
theorem mapN_len (l : List (κ × α)) : (mapN e f l).length = l.length := by unfold mapN; rw [List.length_map]
theorem mapK_len (l : List (κ × α)) : (mapK g f l).length = l.length := by unfold mapK; rw [List.length_map]
end
/-! ### a plain net as rows are read -/
abbrev Ltr := Int × Int
structure Net where
  kind : Str
  there : List (Int × Bool) := []
  sent : List (Ltr × (Option Int × Str)) := []
  due : List (Ltr × List Int) := []
  lastSent : List (Int × Int) := []
  lastHeard : List (Ltr × Int) := []
  heard : List ((Int × Ltr) × Unit) := []
  lost : List (Ltr × Unit) := []
inductive PRow where
  | come (h : Int) (al : Bool)
  | go (h : Int)
  | send (s n : Int) (aim : Option Int) (t : Str)
  | hear (h s n : Int) (t : Str)
  | lose (s n : Int)
def optD : Option Int → PyData
  | none => .none
  | some i => .int i
abbrev ltrD (l : Ltr) : PyData := .tuple [.int l.1, .int l.2]
def srtT (al : Bool) : PyData := .str (if al then "alias" else "hand")
def rowD : PRow → PyData
  | .come h al => .tuple [.str "come", .int h, srtT al]
  | .go h => .tuple [.str "go", .int h]
  | .send s n aim t => .tuple [.str "send", .int s, .int n, optD aim, .str t]
  | .hear h s n t => .tuple [.str "hear", .int h, .int s, .int n, .str t]
  | .lose s n => .tuple [.str "lose", .int s, .int n]
def aimOk : Option Int → Bool
  | none => true
  | some i => decide (0 ≤ i)
/-- the numbers are from 0 on -/
def rowOk : PRow → Bool
  | .come h _ => decide (0 ≤ h)
  | .go h => decide (0 ≤ h)
  | .send s n aim _ => decide (0 ≤ s) && (decide (0 ≤ n) && aimOk aim)
  | .hear h s n _ => decide (0 ≤ h) && (decide (0 ≤ s) && decide (0 ≤ n))
  | .lose s n => decide (0 ≤ s) && decide (0 ≤ n)
def dueFor (there : List (Int × Bool)) (s : Int) : Option Int → List Int
  | none => (there.filter fun p => decide (p.1 ≠ s) && !((aget there p.1).getD false)).map (·.1)
  | some h => if (aget there h).isSome = true then [h] else []
def isFor (there : List (Int × Bool)) (hand s : Int) : Option Int → Bool
  | none => decide (hand ≠ s) && !((aget there hand).getD false)
  | some h => decide (hand = h)
def inTurn (N : Net) (hand : Int) (l : Ltr) : Bool :=
  if N.kind = "once" then !(aget N.heard (hand, l)).isSome else if N.kind = "row" then decide ((aget N.lastHeard (hand, l.1)).getD (-1) < l.2) else true
def comeN (N : Net) (h : Int) (al : Bool) : Option Net := if (aget N.there h).isSome = true then none else some { N with there := aput N.there h al }
def goN (N : Net) (h : Int) : Option Net := if (aget N.there h).isSome = true then some { N with there := adel N.there h } else none
def sendN (N : Net) (s n : Int) (aim : Option Int) (t : Str) : Option Net :=
  if (aget N.there s).isSome = true then (if n ≤ (aget N.lastSent s).getD (-1) then none else
    some { N with lastSent := aput N.lastSent s n, sent := aput N.sent (s, n) (aim, t), due := aput N.due (s, n) (dueFor N.there s aim) }) else none
def hearN (N : Net) (h s n : Int) (t : Str) : Option Net :=
  if (aget N.there h).isSome = true then (match aget N.sent (s, n) with
    | none => none
    | some (aim, t') => if t = t' then (if isFor N.there h s aim = true then (if inTurn N h (s, n) = true then
        some { N with heard := aput N.heard (h, (s, n)) (), lastHeard := aput N.lastHeard (h, s) (if (aget N.lastHeard (h, s)).getD (-1) > n then (aget N.lastHeard (h, s)).getD (-1) else n) } else none) else none) else none) else none
def loseN (N : Net) (s n : Int) : Option Net := if (aget N.sent (s, n)).isSome = true then some { N with lost := aput N.lost (s, n) () } else none
def takeN (N : Net) : PRow → Option Net
  | .come h al => comeN N h al
  | .go h => goN N h
  | .send s n aim t => sendN N s n aim t
  | .hear h s n t => hearN N h s n t
  | .lose s n => loseN N s n
def wasHeard (N : Net) (l : Ltr) : Bool := ((aget N.due l).getD []).all fun h => (aget N.heard (h, l)).isSome
def ltLtr (a b : Ltr) : Bool := decide (a.1 < b.1 ∨ (a.1 = b.1 ∧ a.2 < b.2))
def rising (l : List Ltr) : Bool := (List.range (l.length - 1)).all fun i => ltLtr (l.getD i (0, 0)) (l.getD (i + 1) (0, 0))
def isEnd (N : Net) (op : List Ltr) : Bool :=
  rising op && (op.all (fun l => (aget N.sent l).isSome) && N.sent.all fun p => (aget N.lost p.1).isSome || (decide (p.1 ∈ op) || wasHeard N p.1))
/-- the number of the first row that isn't taken, behind i -/
def goRows (N : Net) (i : Nat) : List PRow → Net ⊕ Nat
  | [] => .inl N
  | r :: rs => match takeN N r with
    | none => .inr i
    | some N' => goRows N' (i + 1) rs
def firstWrong (kind : Str) (rows : List PRow) (op : List Ltr) : Option Nat := match goRows { kind := kind } 0 rows with
  | .inr i => some i
  | .inl N => if isEnd N op = true then none else some rows.length
/-- what is due is told for each letter -/
def Net.Ok (N : Net) : Prop := ∀ l, (aget N.sent l).isSome = true → (aget N.due l).isSome = true
structure Net.Le (N : Net) (b : Nat) : Prop where
  there : N.there.length ≤ b
  sent : N.sent.length ≤ b
  due : N.due.length ≤ b
  lastSent : N.lastSent.length ≤ b
  lastHeard : N.lastHeard.length ≤ b
  heard : N.heard.length ≤ b
  lost : N.lost.length ≤ b
theorem takeN_le {N N' : Net} {r : PRow} {b : Nat} (h : N.Le b) (e : takeN N r = some N') : N'.Le (b + 1) := by
  have o : ∀ {n : Nat}, n ≤ b → n ≤ b + 1 := fun h => Nat.le_succ_of_le h
  have pl : ∀ {κ α : Type} [DecidableEq κ] (l : List (κ × α)) (k : κ) (v : α), l.length ≤ b → (aput l k v).length ≤ b + 1 := fun l k v h => Nat.le_trans (aput_len l k v) (Nat.succ_le_succ h)
  obtain ⟨h1, h2, h3, h4, h5, h6, h7⟩ := h
  cases r with
  | come x al =>
    simp only [takeN, comeN] at e
    split at e
    · cases e
    · cases e; exact ⟨pl _ _ _ h1, o h2, o h3, o h4, o h5, o h6, o h7⟩
  | go x =>
    simp only [takeN, goN] at e
    split at e
    · cases e; exact ⟨o (Nat.le_trans (adel_len _ _) h1), o h2, o h3, o h4, o h5, o h6, o h7⟩
    · cases e
  | send s n aim t =>
    simp only [takeN, sendN] at e
    split at e
    · split at e
      · cases e
      · cases e; exact ⟨o h1, pl _ _ _ h2, pl _ _ _ h3, pl _ _ _ h4, o h5, o h6, o h7⟩
    · cases e
  | hear h s n t =>
    simp only [takeN, hearN] at e
    split at e
    · split at e
      · cases e
      · split at e
        · split at e
          · split at e
            · cases e; exact ⟨o h1, o h2, o h3, o h4, pl _ _ _ h5, pl _ _ _ h6, o h7⟩
            · cases e
          · cases e
        · cases e
    · cases e
  | lose s n =>
    simp only [takeN, loseN] at e
    split at e
    · cases e; exact ⟨o h1, o h2, o h3, o h4, o h5, o h6, pl _ _ _ h7⟩
    · cases e
theorem takeN_ok {N N' : Net} {r : PRow} (h : N.Ok) (e : takeN N r = some N') : N'.Ok := by
  cases r with
  | come x al =>
    simp only [takeN, comeN] at e
    split at e
    · cases e
    · cases e; exact h
  | go x =>
    simp only [takeN, goN] at e
    split at e
    · cases e; exact h
    · cases e
  | send s n aim t =>
    simp only [takeN, sendN] at e
    split at e
    · split at e
      · cases e
      · cases e
        intro l hl
        show (aget (aput N.due (s, n) _) l).isSome = true
        have hl : (aget (aput N.sent (s, n) _) l).isSome = true := hl
        rw [aget_put] at hl ⊢
        by_cases z : l = (s, n)
        · rw [if_pos z]; rfl
        · rw [if_neg z] at hl ⊢; exact h l hl
    · cases e
  | hear h' s n t =>
    simp only [takeN, hearN] at e
    split at e
    · split at e
      · cases e
      · split at e
        · split at e
          · split at e
            · cases e; exact h
            · cases e
          · cases e
        · cases e
    · cases e
  | lose s n =>
    simp only [takeN, loseN] at e
    split at e
    · cases e; exact h
    · cases e
/-- the lists of those due are short -/
def Net.Dl (N : Net) (b : Nat) : Prop := ∀ l ds, aget N.due l = some ds → ds.length ≤ b
theorem dueFor_len (th : List (Int × Bool)) (s : Int) (aim : Option Int) : (dueFor th s aim).length ≤ th.length + 1 := by
  cases aim with
  | none => unfold dueFor; rw [List.length_map]; exact Nat.le_succ_of_le (List.length_filter_le _ _)
  | some h =>
    show (if (aget th h).isSome = true then [h] else []).length ≤ th.length + 1
    split
    · exact Nat.succ_le_succ (Nat.zero_le _)
    · exact Nat.zero_le _
theorem takeN_dl {N N' : Net} {r : PRow} {b : Nat} (hl : N.there.length + 1 ≤ b) (h : N.Dl b) (e : takeN N r = some N') : N'.Dl b := by
  cases r with
  | come x al =>
    simp only [takeN, comeN] at e
    split at e
    · cases e
    · cases e; exact h
  | go x =>
    simp only [takeN, goN] at e
    split at e
    · cases e; exact h
    · cases e
  | send s n aim t =>
    simp only [takeN, sendN] at e
    split at e
    · split at e
      · cases e
      · cases e
        intro l ds hl'
        have hl' : aget (aput N.due (s, n) _) l = some ds := hl'
        rw [aget_put] at hl'
        by_cases z : l = (s, n)
        · rw [if_pos z] at hl'; cases hl'; exact Nat.le_trans (dueFor_len _ _ _) hl
        · rw [if_neg z] at hl'; exact h l ds hl'
    · cases e
  | hear h' s n t =>
    simp only [takeN, hearN] at e
    split at e
    · split at e
      · cases e
      · split at e
        · split at e
          · split at e
            · cases e; exact h
            · cases e
          · cases e
        · cases e
    · cases e
  | lose s n =>
    simp only [takeN, loseN] at e
    split at e
    · cases e; exact h
    · cases e
/-! where it lies -/
def kL (l : Ltr) : NestedKey := .tup [.num l.1, .num l.2]
def kHL (p : Int × Ltr) : NestedKey := .tup [.num p.1, kL p.2]
def kI (i : Int) : Key := .inl i
theorem kL_inj (a b : Ltr) (h : kL a = kL b) : a = b := by
  obtain ⟨a1, a2⟩ := a; obtain ⟨b1, b2⟩ := b
  unfold kL at h
  simp at h
  rw [h.1, h.2]
theorem kHL_inj (a b : Int × Ltr) (h : kHL a = kHL b) : a = b := by
  obtain ⟨a1, a2⟩ := a; obtain ⟨b1, b2⟩ := b
  unfold kHL at h
  simp at h
  rw [h.1, kL_inj _ _ h.2]
theorem kI_inj (a b : Int) (h : kI a = kI b) : a = b := by unfold kI at h; injection h
theorem kL_data (l : Ltr) : (kL l).data = ltrD l := by simp [kL, NestedKey.data, NestedKey.datas, ltrD]
theorem kHL_data (p : Int × Ltr) : (kHL p).data = .tuple [.int p.1, ltrD p.2] := by simp [kHL, kL, NestedKey.data, NestedKey.datas, ltrD]
theorem kL_deep (l : Ltr) : (kL l).depth ≤ 8 := by simp [kL, NestedKey.depth, NestedKey.depthAll]
theorem kHL_deep (l : Int × Ltr) : (kHL l).depth ≤ 8 := by simp [kHL, kL, NestedKey.depth, NestedKey.depthAll]
def thereM := mapK kI fun b : Bool => MV.d (.bool b)
def sentM := mapN kL fun p : Option Int × Str => MV.d (.tuple [optD p.1, .str p.2])
def dueM := mapN kL fun p : List Int => MV.d (.list (p.map .int))
def lastSentM := mapK kI fun b : Int => MV.d (.int b)
def lastHeardM := mapN kL fun b : Int => MV.d (.int b)
def heardM := mapN kHL fun _ : Unit => MV.d (.bool true)
def lostM := mapN kL fun _ : Unit => MV.d (.bool true)
def netF (kind : Str) (i : Nat) : List (Str × MV) := [("kind", .d (.str kind)), ("there", .r (i + 1)), ("sent", .r (i + 2)), ("due", .r (i + 3)), ("last_sent", .r (i + 4)), ("last_heard", .r (i + 5)), ("heard", .r (i + 6)), ("lost", .r (i + 7))]
def netL (w : World) (C : Addr) (i : Nat) (N : Net) : Mm := [.ins C (netF N.kind i), .dct (thereM N.there), .dn w (sentM N.sent), .dn w (dueM N.due), .dct (lastSentM N.lastSent), .dn w (lastHeardM N.lastHeard), .dn w (heardM N.heard), .dn w (lostM N.lost)]
theorem nget (m0 l : Mm) (j : Nat) : (m0 ++ l)[m0.length + j]? = l[j]? := by
  rw [List.getElem?_append_right (by omega)]
  congr 1
  omega
theorem nset (m0 l : Mm) (j : Nat) (o : MO) : (m0 ++ l).set (m0.length + j) o = m0 ++ l.set j o := by
  rw [List.set_append_right _ _ (by omega)]
  congr 2
  omega
end Wn
set_option Elab.async false
set_option linter.all false
set_option maxRecDepth 100000
set_option maxHeartbeats 2000000
set_option autoImplicit false
namespace Wn
open PySem L2
/-! ### the law's own run, and the net that reads its rows -/
abbrev Ms := Int × Ltr
structure Sim (th : List (Int × Bool)) (ct : List (Int × Int)) (N : Net) (ms : List Ms) : Prop where
  there : N.there = th
  last : N.lastSent = ct
  sentLe : ∀ s n, (aget N.sent (s, n)).isSome = true → ∃ c, aget ct s = some c ∧ n ≤ c
  lhLe : ∀ h s v, aget N.lastHeard (h, s) = some v → ∃ c, aget ct s = some c ∧ v ≤ c
  hdSent : ∀ h l, (aget N.heard (h, l)).isSome = true → (aget N.sent l).isSome = true
  lost : N.lost = []
  due : ∀ l ds, aget N.due l = some ds → ∀ h ∈ ds, (aget N.heard (h, l)).isSome = true ∨ (h, l) ∈ ms
  dueSent : ∀ l, (aget N.sent l).isSome = true → (aget N.due l).isSome = true
  msOk : ∀ h l, (h, l) ∈ ms → (aget N.sent l).isSome = true ∧ (aget N.heard (h, l)).isSome = false ∧ ∃ ds, aget N.due l = some ds ∧ h ∈ ds
  nd : ms.Nodup
theorem Sim.start (kd : Str) : Sim [] [] { kind := kd } [] := ⟨rfl, rfl, fun _ _ h => (by cases h), fun _ _ _ h => (by cases h), fun _ _ h => (by cases h), rfl, fun _ _ h => (by cases h), fun _ h => (by cases h), fun _ _ h => (by cases h), List.nodup_nil⟩
section
variable {th : List (Int × Bool)} {ct : List (Int × Int)} {N : Net} {ms : List Ms}
theorem Sim.come (S : Sim th ct N ms) {h : Int} {al : Bool} (hn : aget th h = none) : ∃ N', takeN N (.come h al) = some N' ∧ Sim (aput th h al) ct N' ms ∧ N'.kind = N.kind := by
  refine ⟨{ N with there := aput N.there h al }, ?_, ⟨by rw [S.there], S.last, S.sentLe, S.lhLe, S.hdSent, S.lost, S.due, S.dueSent, S.msOk, S.nd⟩, rfl⟩
  simp only [takeN, comeN]
  rw [S.there, hn]
  rfl
theorem Sim.go (S : Sim th ct N ms) {h : Int} (hn : (aget th h).isSome = true) : ∃ N', takeN N (.go h) = some N' ∧ Sim (adel th h) ct N' ms ∧ N'.kind = N.kind := by
  refine ⟨{ N with there := adel N.there h }, ?_, ⟨by rw [S.there], S.last, S.sentLe, S.lhLe, S.hdSent, S.lost, S.due, S.dueSent, S.msOk, S.nd⟩, rfl⟩
  simp only [takeN, goN]
  rw [S.there, hn]
  rfl
/-- what is pending of the letter sent last -/
structure Pd (N : Net) (s n : Int) (aim : Option Int) (t : Str) (hs : List Int) : Prop where
  sent : aget N.sent (s, n) = some (aim, t)
  lh : ∀ h ∈ hs, (aget N.lastHeard (h, s)).getD (-1) < n
def pnd (s n : Int) (hs : List Int) : List Ms := hs.map fun h => (h, (s, n))
theorem Sim.send (S : Sim th ct N ms) {s n : Int} {aim : Option Int} {t : Str} {hs : List Int} (h0 : (aget th s).isSome = true) (hn : (aget ct s).getD (-1) < n) (n0 : -1 < n) (hnd : hs.Nodup) (hd : ∀ h, h ∈ hs ↔ h ∈ dueFor th s aim) :
    ∃ N', takeN N (.send s n aim t) = some N' ∧ Sim th (aput ct s n) N' (ms ++ pnd s n hs) ∧ Pd N' s n aim t hs ∧ N'.kind = N.kind := by
  have fresh : aget N.sent (s, n) = none := by
    cases e : aget N.sent (s, n) with
    | none => rfl
    | some y =>
      obtain ⟨c, hc, hle⟩ := S.sentLe s n (by rw [e]; rfl)
      rw [hc] at hn
      have : c < n := hn
      omega
  have ctle : ∀ (s' v : Int), (∃ c, aget ct s' = some c ∧ v ≤ c) → ∃ c, aget (aput ct s n) s' = some c ∧ v ≤ c := fun s' v ⟨c, hc, hv⟩ => by
    rw [aget_put]
    by_cases e : s' = s
    · subst e
      rw [if_pos rfl]
      refine ⟨n, rfl, ?_⟩
      rw [hc] at hn
      have : c < n := hn
      omega
    · rw [if_neg e]; exact ⟨c, hc, hv⟩
  refine ⟨{ N with lastSent := aput N.lastSent s n, sent := aput N.sent (s, n) (aim, t), due := aput N.due (s, n) (dueFor N.there s aim) }, ?_, ?_, ⟨by show aget (aput N.sent (s, n) (aim, t)) (s, n) = _; rw [aget_put, if_pos rfl], fun h _ => ?_⟩, rfl⟩
  · simp only [takeN, sendN]
    rw [S.there, S.last, h0, if_pos rfl, if_neg (by omega)]
  · refine ⟨S.there, by show aput N.lastSent s n = _; rw [S.last], fun s' n' hs' => ?_, fun h s' v hv => ctle s' v (S.lhLe h s' v hv), fun h l hl => ?_, S.lost, fun l ds hds h hh => ?_, fun l hl => ?_, fun h l hm => ?_, ?_⟩
    · have hs' : (aget (aput N.sent (s, n) (aim, t)) (s', n')).isSome = true := hs'
      rw [aget_put] at hs'
      by_cases e : (s', n') = (s, n)
      · cases e
        exact ⟨n, by rw [aget_put, if_pos rfl], Int.le_refl _⟩
      · rw [if_neg e] at hs'
        exact ctle s' n' (S.sentLe s' n' hs')
    · show (aget (aput N.sent (s, n) (aim, t)) l).isSome = true
      rw [aget_put]
      by_cases e : l = (s, n)
      · rw [if_pos e]; rfl
      · rw [if_neg e]; exact S.hdSent h l hl
    · have hds : aget (aput N.due (s, n) (dueFor N.there s aim)) l = some ds := hds
      rw [aget_put] at hds
      by_cases e : l = (s, n)
      · rw [if_pos e] at hds
        cases hds
        right
        subst e
        rw [S.there] at hh
        exact List.mem_append_right _ (List.mem_map.mpr ⟨h, (hd h).mpr hh, rfl⟩)
      · rw [if_neg e] at hds
        exact (S.due l ds hds h hh).imp id (fun z => List.mem_append_left _ z)
    · show (aget (aput N.due (s, n) _) l).isSome = true
      have hl : (aget (aput N.sent (s, n) (aim, t)) l).isSome = true := hl
      rw [aget_put] at hl ⊢
      by_cases e : l = (s, n)
      · rw [if_pos e]; rfl
      · rw [if_neg e] at hl ⊢; exact S.dueSent l hl
    · show (aget (aput N.sent (s, n) (aim, t)) l).isSome = true ∧ (aget N.heard (h, l)).isSome = false ∧ ∃ ds, aget (aput N.due (s, n) (dueFor N.there s aim)) l = some ds ∧ h ∈ ds
      rcases List.mem_append.mp hm with hm | hm
      · obtain ⟨h1, h2, ds, h3, h4⟩ := S.msOk h l hm
        have ne : l ≠ (s, n) := fun z => by rw [z, fresh] at h1; cases h1
        rw [aget_put, aget_put, if_neg ne, if_neg ne]
        exact ⟨h1, h2, ds, h3, h4⟩
      · obtain ⟨h', hh', e⟩ := List.mem_map.mp hm
        cases e
        rw [aget_put, aget_put, if_pos rfl, if_pos rfl]
        refine ⟨rfl, ?_, _, rfl, by rw [S.there]; exact (hd _).mp hh'⟩
        cases e : (aget N.heard (h, (s, n))).isSome with
        | false => rfl
        | true => have := S.hdSent _ _ e; rw [fresh] at this; cases this
    · rw [List.nodup_append]
      refine ⟨S.nd, ?_, fun a ha b hb e => ?_⟩
      · unfold pnd
        rw [List.nodup_iff_pairwise_ne, List.pairwise_map]
        exact (List.nodup_iff_pairwise_ne.mp hnd).imp fun ne e => ne (by injection e)
      · subst e
        obtain ⟨h', _, e⟩ := List.mem_map.mp hb
        subst e
        obtain ⟨h1, _⟩ := S.msOk _ _ ha
        rw [fresh] at h1
        cases h1
  · show (aget N.lastHeard (h, s)).getD (-1) < n
    cases e : aget N.lastHeard (h, s) with
    | none => exact n0
    | some v =>
      obtain ⟨c, hc, hv⟩ := S.lhLe h s v e
      rw [hc] at hn
      have : c < n := hn
      show v < n
      omega
theorem Sim.hear (S : Sim th ct N ms) {h s n : Int} {aim : Option Int} {t : Str} {hs : List Int} {p q : List Ms} (em : ms = p ++ (h, (s, n)) :: q) (P : Pd N s n aim t (h :: hs)) (h0 : (aget th h).isSome = true) (hf : isFor th h s aim = true) (nh : h ∉ hs) (hc : ∃ c, aget ct s = some c ∧ n ≤ c) :
    ∃ N', takeN N (.hear h s n t) = some N' ∧ Sim th ct N' (p ++ q) ∧ Pd N' s n aim t hs ∧ N'.kind = N.kind := by
  have lt : (aget N.lastHeard (h, s)).getD (-1) < n := P.lh h List.mem_cons_self
  have hm : (h, (s, n)) ∈ ms := by rw [em]; exact List.mem_append_right _ List.mem_cons_self
  obtain ⟨m1, m2, m3⟩ := S.msOk h (s, n) hm
  have tn : inTurn N h (s, n) = true := by
    unfold inTurn
    split
    · rw [m2]; rfl
    · split
      · exact decide_eq_true lt
      · rfl
  have ndm : (h, (s, n)) ∉ p ++ q := by
    have nd := S.nd
    rw [em, List.nodup_append] at nd
    obtain ⟨_, n2, n3⟩ := nd
    rw [List.nodup_cons] at n2
    intro z
    rcases List.mem_append.mp z with z | z
    · exact n3 _ z _ List.mem_cons_self rfl
    · exact n2.1 z
  have sub : ∀ x, x ∈ p ++ q → x ∈ ms := fun x hx => by
    rw [em]
    rcases List.mem_append.mp hx with hx | hx
    · exact List.mem_append_left _ hx
    · exact List.mem_append_right _ (List.mem_cons_of_mem _ hx)
  refine ⟨{ N with heard := aput N.heard (h, (s, n)) (), lastHeard := aput N.lastHeard (h, s) (if (aget N.lastHeard (h, s)).getD (-1) > n then (aget N.lastHeard (h, s)).getD (-1) else n) }, ?_, ?_, ⟨P.sent, fun h' hh' => ?_⟩, rfl⟩
  · simp only [takeN, hearN]
    rw [S.there, h0, if_pos rfl, P.sent]
    dsimp only
    rw [if_pos rfl, if_pos hf, if_pos tn]
  · refine ⟨S.there, S.last, S.sentLe, fun h' s' v hv => ?_, fun h' l hl => ?_, S.lost, fun l ds hds h' hh' => ?_, S.dueSent, fun h' l hml => ?_, ?_⟩
    · have hv : aget (aput N.lastHeard (h, s) (if (aget N.lastHeard (h, s)).getD (-1) > n then (aget N.lastHeard (h, s)).getD (-1) else n)) (h', s') = some v := hv
      rw [aget_put] at hv
      by_cases e : (h', s') = (h, s)
      · cases e
        rw [if_pos rfl, if_neg (by omega)] at hv
        cases hv
        exact hc
      · rw [if_neg e] at hv; exact S.lhLe h' s' v hv
    · have hl : (aget (aput N.heard (h, (s, n)) ()) (h', l)).isSome = true := hl
      rw [aget_put] at hl
      by_cases e : (h', l) = (h, (s, n))
      · cases e; exact m1
      · rw [if_neg e] at hl; exact S.hdSent h' l hl
    · show (aget (aput N.heard (h, (s, n)) ()) (h', l)).isSome = true ∨ _
      rw [aget_put]
      by_cases e : (h', l) = (h, (s, n))
      · rw [if_pos e]; exact .inl rfl
      · rw [if_neg e]
        refine (S.due l ds hds h' hh').imp id fun z => ?_
        rw [em] at z
        rcases List.mem_append.mp z with z | z
        · exact List.mem_append_left _ z
        · rcases List.mem_cons.mp z with z | z
          · exact absurd z e
          · exact List.mem_append_right _ z
    · show (aget N.sent l).isSome = true ∧ (aget (aput N.heard (h, (s, n)) ()) (h', l)).isSome = false ∧ _
      have ne : (h', l) ≠ (h, (s, n)) := fun z => ndm (by rw [← z]; exact hml)
      rw [aget_put, if_neg ne]
      exact S.msOk h' l (sub _ hml)
    · have nd := S.nd
      rw [em] at nd
      exact nd.sublist (List.Sublist.append (List.Sublist.refl p) (List.sublist_cons_self _ q))
  · show (aget (aput N.lastHeard (h, s) _) (h', s)).getD (-1) < n
    rw [aget_put, if_neg (fun z => nh (by injection z with z1 z2; rw [← z1]; exact hh'))]
    exact P.lh h' (List.mem_cons_of_mem _ hh')
/-! the end -/
theorem wasHeard_of {l : Ltr} (S : Sim th ct N ms) (hl : (aget N.sent l).isSome = true) (h : ∀ h, (h, l) ∉ ms) : wasHeard N l = true := by
  unfold wasHeard
  obtain ⟨ds, hds⟩ := Option.isSome_iff_exists.mp (S.dueSent l hl)
  rw [hds]
  exact List.all_eq_true.mpr fun x hx => (S.due l ds hds x hx).resolve_right (h x)
theorem rising_small {op : List Ltr} (h : op.length ≤ 1) : rising op = true := by
  unfold rising
  rw [show op.length - 1 = 0 by omega]
  rfl
theorem Sim.fine (S : Sim th ct N []) : isEnd N [] = true := by
  unfold isEnd
  rw [rising_small (by simp)]
  refine Bool.and_eq_true_iff.mpr ⟨rfl, Bool.and_eq_true_iff.mpr ⟨rfl, List.all_eq_true.mpr fun p hp => ?_⟩⟩
  rw [wasHeard_of S (aget_isSome.mpr (List.mem_map.mpr ⟨p, hp, rfl⟩)) (fun h z => by cases z)]
  simp
theorem Sim.wrong {h : Int} {l : Ltr} (S : Sim th ct N [(h, l)]) : isEnd N [] = false := by
  obtain ⟨h1, h2, ds, h3, h4⟩ := S.msOk h l List.mem_cons_self
  obtain ⟨p, hp, e⟩ := List.mem_map.mp (aget_isSome.mp h1)
  have : (N.sent.all fun p => (aget N.lost p.1).isSome || (decide (p.1 ∈ ([] : List Ltr)) || wasHeard N p.1)) = false := by
    refine List.all_eq_false.mpr ⟨p, hp, ?_⟩
    rw [e, S.lost]
    have w : wasHeard N l = false := by
      unfold wasHeard
      rw [h3]
      exact List.all_eq_false.mpr ⟨h, h4, by rw [h2]; simp⟩
    rw [w]
    simp [aget]
  unfold isEnd
  rw [this]
  simp
theorem Sim.told {h : Int} {l : Ltr} (S : Sim th ct N [(h, l)]) : ∃ N', takeN N (.lose l.1 l.2) = some N' ∧ isEnd N' [] = true := by
  obtain ⟨h1, h2, ds, h3, h4⟩ := S.msOk h l List.mem_cons_self
  refine ⟨{ N with lost := aput N.lost (l.1, l.2) () }, ?_, ?_⟩
  · simp only [takeN, loseN]
    rw [if_pos h1]
  · unfold isEnd
    rw [rising_small (by simp)]
    refine Bool.and_eq_true_iff.mpr ⟨rfl, Bool.and_eq_true_iff.mpr ⟨rfl, List.all_eq_true.mpr fun p hp => ?_⟩⟩
    show ((aget (aput N.lost (l.1, l.2) ()) p.1).isSome || _) = true
    rw [aget_put]
    by_cases e : p.1 = l
    · rw [if_pos (show p.1 = (l.1, l.2) from e)]; rfl
    · have w : wasHeard N p.1 = true := wasHeard_of S (aget_isSome.mpr (List.mem_map.mpr ⟨p, hp, rfl⟩)) (fun h' z => e (by simp at z; exact z.2))
      have w' : wasHeard { N with lost := aput N.lost (l.1, l.2) () } p.1 = true := w
      rw [w']
      simp
theorem Sim.awaits {h : Int} {l : Ltr} (S : Sim th ct N [(h, l)]) : isEnd N [l] = true := by
  obtain ⟨h1, h2, ds, h3, h4⟩ := S.msOk h l List.mem_cons_self
  unfold isEnd
  rw [rising_small (by simp)]
  refine Bool.and_eq_true_iff.mpr ⟨rfl, Bool.and_eq_true_iff.mpr ⟨by simp [h1], List.all_eq_true.mpr fun p hp => ?_⟩⟩
  by_cases e : p.1 = l
  · simp [e]
  · rw [wasHeard_of S (aget_isSome.mpr (List.mem_map.mpr ⟨p, hp, rfl⟩)) (fun h' z => e (by simp at z; exact z.2))]
    simp
end
end Wn
set_option Elab.async false
set_option linter.all false
set_option maxRecDepth 100000
set_option maxHeartbeats 2000000
set_option autoImplicit false
namespace Wn
open PySem L2
theorem goRows_app' (N : Net) : ∀ (a b : List PRow) (i : Nat) , goRows N i (a ++ b) = match goRows N i a with | .inl N' => goRows N' (i + a.length) b | .inr k => .inr k := by
  intro a
  induction a generalizing N with
  | nil => intro b i; rfl
  | cons r a ih =>
    intro b i
    rw [List.cons_append, goRows, goRows]
    cases takeN N r with
    | none => rfl
    | some N' =>
      show goRows N' (i + 1) (a ++ b) = _
      rw [ih N' b (i + 1), List.length_cons, show i + 1 + a.length = i + (a.length + 1) by omega]
theorem goRows_snoc' {N N' N2 : Net} {a : List PRow} {r : PRow} {i : Nat} (h : goRows N i a = .inl N') (e : takeN N' r = some N2) : goRows N i (a ++ [r]) = .inl N2 := by
  rw [goRows_app', h]
  show goRows N' (i + a.length) [r] = _
  rw [goRows, e]
  rfl
structure BI (kd : Str) (th : List (Int × Bool)) (ct : List (Int × Int)) (rows : List PRow) (hears : List Nat) (pend : List Ms) (PD : Net → Prop) : Prop where
  full : ∃ N, goRows { kind := kd } 0 rows = .inl N ∧ Sim th ct N pend ∧ PD N
  miss : ∀ a ∈ hears, ∃ (h s n : Int) (t : Str) (N : Net), rows[a]? = some (.hear h s n t) ∧ goRows { kind := kd } 0 (rows.eraseIdx a) = .inl N ∧ Sim th ct N ((h, (s, n)) :: pend) ∧ PD N
section
variable {kd : Str} {th th' : List (Int × Bool)} {ct ct' : List (Int × Int)} {rows : List PRow} {hears : List Nat} {pend pend' : List Ms} {PD PD' : Net → Prop}
theorem BI.start (kd : Str) : BI kd [] [] [] [] [] fun _ => True := ⟨⟨_, rfl, Sim.start kd, trivial⟩, fun _ h => (by cases h)⟩
theorem BI.step (B : BI kd th ct rows hears pend PD) (r : PRow) (H : ∀ N ms, Sim th ct N (ms ++ pend) → PD N → ∃ N', takeN N r = some N' ∧ Sim th' ct' N' (ms ++ pend') ∧ PD' N') : BI kd th' ct' (rows ++ [r]) hears pend' PD' := by
  obtain ⟨⟨N, g, S, p⟩, ms⟩ := B
  refine ⟨?_, fun a ha => ?_⟩
  · obtain ⟨N', e, S', p'⟩ := H N [] S p
    exact ⟨N', goRows_snoc' g e, S', p'⟩
  · obtain ⟨h, s, n, t, M, hr, g', S', p'⟩ := ms a ha
    have la : a < rows.length := (List.getElem?_eq_some_iff.mp hr).1
    obtain ⟨N', e, S2, p2⟩ := H M [(h, (s, n))] S' p'
    refine ⟨h, s, n, t, N', by rw [List.getElem?_append_left la]; exact hr, ?_, S2, p2⟩
    rw [List.eraseIdx_append_of_lt_length la]
    exact goRows_snoc' g' e
theorem BI.come (B : BI kd th ct rows hears [] fun _ => True) {h : Int} {al : Bool} (hn : aget th h = none) : BI kd (aput th h al) ct (rows ++ [.come h al]) hears [] fun _ => True :=
  B.step _ fun N ms S _ => let ⟨N', e, S', _⟩ := S.come (al := al) hn; ⟨N', e, S', trivial⟩
theorem BI.go (B : BI kd th ct rows hears [] fun _ => True) {h : Int} (hn : (aget th h).isSome = true) : BI kd (adel th h) ct (rows ++ [.go h]) hears [] fun _ => True :=
  B.step _ fun N ms S _ => let ⟨N', e, S', _⟩ := S.go hn; ⟨N', e, S', trivial⟩
theorem BI.send (B : BI kd th ct rows hears [] fun _ => True) {s n : Int} {aim : Option Int} {t : Str} {hs : List Int} (h0 : (aget th s).isSome = true) (hn : (aget ct s).getD (-1) < n) (n0 : -1 < n) (hnd : hs.Nodup) (hd : ∀ h, h ∈ hs ↔ h ∈ dueFor th s aim) :
    BI kd th (aput ct s n) (rows ++ [.send s n aim t]) hears (pnd s n hs) fun N => Pd N s n aim t hs :=
  B.step _ fun N ms S _ => by
    rw [List.append_nil] at S
    obtain ⟨N', e, S', P, _⟩ := S.send h0 hn n0 hnd hd
    exact ⟨N', e, S', P⟩
theorem BI.hear {s n : Int} {aim : Option Int} {t : Str} {h : Int} {hs : List Int} (B : BI kd th ct rows hears (pnd s n (h :: hs)) fun N => Pd N s n aim t (h :: hs)) (h0 : (aget th h).isSome = true) (hf : isFor th h s aim = true) (nh : h ∉ hs) (hc : ∃ c, aget ct s = some c ∧ n ≤ c) :
    BI kd th ct (rows ++ [.hear h s n t]) (hears ++ [rows.length]) (pnd s n hs) fun N => Pd N s n aim t hs := by
  have C : BI kd th ct (rows ++ [.hear h s n t]) hears (pnd s n hs) fun N => Pd N s n aim t hs := B.step _ fun N ms S P => by
    obtain ⟨N', e, S', P', _⟩ := S.hear (p := ms) (q := pnd s n hs) rfl P h0 hf nh hc
    exact ⟨N', e, S', P'⟩
  refine ⟨C.full, fun a ha => ?_⟩
  rcases List.mem_append.mp ha with ha | ha
  · exact C.miss a ha
  · obtain rfl := List.mem_singleton.mp ha
    obtain ⟨N, g, S, P⟩ := B.full
    refine ⟨h, s, n, t, N, by simp, ?_, S, ⟨P.sent, fun h' hh' => P.lh h' (List.mem_cons_of_mem _ hh')⟩⟩
    have e : (rows ++ [PRow.hear h s n t]).eraseIdx rows.length = rows := by
      rw [List.eraseIdx_append_of_length_le (Nat.le_refl _)]
      simp
    rw [e]
    exact g
theorem BI.done {s n : Int} {aim : Option Int} {t : Str} (B : BI kd th ct rows hears (pnd s n []) fun N => Pd N s n aim t []) : BI kd th ct rows hears [] fun _ => True :=
  ⟨let ⟨N, g, S, _⟩ := B.full; ⟨N, g, S, trivial⟩, fun a ha => let ⟨h, s, n, t, N, e, g, S, _⟩ := B.miss a ha; ⟨h, s, n, t, N, e, g, S, trivial⟩⟩
theorem BI.end1 (B : BI kd th ct rows hears [] fun _ => True) : firstWrong kd rows [] = none := by
  obtain ⟨N, g, S, _⟩ := B.full
  unfold firstWrong
  rw [g]
  dsimp only
  rw [S.fine]
  rfl
theorem BI.end2 (B : BI kd th ct rows hears [] fun _ => True) {a : Nat} (ha : a ∈ hears) : ∃ (h s n : Int) (t : Str), rows[a]? = some (.hear h s n t) ∧ firstWrong kd (rows.eraseIdx a) [] = some (rows.eraseIdx a).length ∧
    firstWrong kd (rows.eraseIdx a ++ [.lose s n]) [] = none ∧ firstWrong kd (rows.eraseIdx a) [(s, n)] = none := by
  obtain ⟨h, s, n, t, N, e, g, S, _⟩ := B.miss a ha
  refine ⟨h, s, n, t, e, ?_, ?_, ?_⟩
  · unfold firstWrong
    rw [g]
    dsimp only
    rw [S.wrong]
    rfl
  · obtain ⟨N', e', f⟩ := S.told
    unfold firstWrong
    rw [goRows_snoc' g e']
    dsimp only
    rw [f]
    rfl
  · unfold firstWrong
    rw [g]
    dsimp only
    rw [S.awaits]
    rfl
end
/-! who is due, by the law -/
def dueL (th : List (Int × Bool)) (s : Int) : Option Int → List Int
  | none => (srtI (th.map (·.1))).filter fun h => decide (aget th h = some false) && decide (h ≠ s)
  | some a => if (aget th a).isSome = true then [a] else []
theorem srtI_mem {ks : List Int} {x : Int} : x ∈ srtI ks ↔ x ∈ ks := (srtI_perm ks).mem_iff
theorem dueL_nd {th : List (Int × Bool)} (nd : (th.map (·.1)).Nodup) (s : Int) (aim : Option Int) : (dueL th s aim).Nodup := by
  cases aim with
  | none => exact ((srtI_perm _).nodup_iff.mpr nd).sublist List.filter_sublist
  | some a =>
    show (if (aget th a).isSome = true then [a] else []).Nodup
    split <;> simp
theorem dueL_mem {th : List (Int × Bool)} {s h : Int} {aim : Option Int} : h ∈ dueL th s aim ↔ h ∈ dueFor th s aim := by
  cases aim with
  | none =>
    unfold dueL dueFor
    rw [List.mem_filter, srtI_mem, List.mem_map, List.mem_map]
    constructor
    · rintro ⟨⟨p, hp, rfl⟩, hc⟩
      rw [Bool.and_eq_true, decide_eq_true_eq, decide_eq_true_eq] at hc
      refine ⟨p, List.mem_filter.mpr ⟨hp, ?_⟩, rfl⟩
      rw [hc.1]
      simp [hc.2]
    · rintro ⟨p, hp, rfl⟩
      obtain ⟨hp, hc⟩ := List.mem_filter.mp hp
      rw [Bool.and_eq_true, decide_eq_true_eq] at hc
      refine ⟨⟨p, hp, rfl⟩, ?_⟩
      obtain ⟨v, hv⟩ := Option.isSome_iff_exists.mp ((aget_isSome (l := th)).mpr (List.mem_map.mpr ⟨p, hp, rfl⟩))
      rw [hv] at hc ⊢
      have : v = false := by
        have := hc.2
        simpa using this
      rw [this]
      simp [hc.1]
  | some a => rfl
theorem dueL_has {th : List (Int × Bool)} {s h : Int} {aim : Option Int} (hh : h ∈ dueL th s aim) : (aget th h).isSome = true ∧ isFor th h s aim = true := by
  cases aim with
  | none =>
    unfold dueL at hh
    obtain ⟨_, hc⟩ := List.mem_filter.mp hh
    rw [Bool.and_eq_true, decide_eq_true_eq, decide_eq_true_eq] at hc
    refine ⟨by rw [hc.1]; rfl, ?_⟩
    unfold isFor
    rw [hc.1]
    simp [hc.2]
  | some a =>
    have hh : h ∈ (if (aget th a).isSome = true then [a] else []) := hh
    by_cases e : (aget th a).isSome = true
    · rw [if_pos e] at hh
      obtain rfl := List.mem_singleton.mp hh
      exact ⟨e, by simp [isFor]⟩
    · rw [if_neg e] at hh; cases hh
theorem dueL_len (th : List (Int × Bool)) (s : Int) (aim : Option Int) : (dueL th s aim).length ≤ th.length + 1 := by
  cases aim with
  | none => exact Nat.le_succ_of_le (Nat.le_trans (List.length_filter_le _ _) (by rw [(srtI_perm _).length_eq, List.length_map]; exact Nat.le_refl _))
  | some a =>
    show (if (aget th a).isSome = true then [a] else []).length ≤ _
    split
    · exact Nat.succ_le_succ (Nat.zero_le _)
    · exact Nat.zero_le _
theorem aput_nd {α : Type} {th : List (Int × α)} (nd : (th.map (·.1)).Nodup) (h : Int) (v : α) : ((aput th h v).map (·.1)).Nodup := by
  unfold aput
  by_cases e : (aget th h).isSome = true
  · rw [if_pos e, List.map_map]
    have : (th.map ((fun p => p.1) ∘ fun p : Int × α => if p.1 = h then (p.1, v) else p)) = th.map (·.1) := List.map_congr_left fun p _ => by
      show (if p.1 = h then (p.1, v) else p).1 = p.1
      split <;> rfl
    rw [this]; exact nd
  · rw [if_neg e, List.map_append, List.nodup_append]
    refine ⟨nd, by simp, fun a ha b hb z => ?_⟩
    subst z
    simp at hb
    subst hb
    exact e (aget_isSome.mpr ha)
theorem adel_nd {α : Type} {th : List (Int × α)} (nd : (th.map (·.1)).Nodup) (h : Int) : ((adel th h).map (·.1)).Nodup := nd.sublist (List.Sublist.map _ List.filter_sublist)
end Wn
set_option Elab.async false
set_option linter.all false
set_option maxRecDepth 100000
set_option maxHeartbeats 2000000
set_option autoImplicit false
set_option pp.maxSteps 600
namespace Wn
open PySem L2
local macro_rules | `(tactic| walk_at "fam") => `(tactic| first | assumption | exact Fam.blk (by assumption) _ | exact Fam.blk (Fam.blk (by assumption) _) _)
local macro_rules | `(tactic| walk_at "at") => `(tactic| with_reducible first | exact At.z | exact At.s At.z | exact At.s (At.s At.z) | exact At.s (At.s (At.s At.z)) | exact At.s (At.s (At.s (At.s At.z))) | exact At.s (At.s (At.s (At.s (At.s At.z)))) | exact At.s (At.s (At.s (At.s (At.s (At.s At.z))))) | exact At.s (At.s (At.s (At.s (At.s (At.s (At.s At.z)))))) | exact At.s (At.s (At.s (At.s (At.s (At.s (At.s (At.s At.z))))))) | exact At.s (At.s (At.s (At.s (At.s (At.s (At.s (At.s (At.s At.z)))))))) | exact At.s (At.s (At.s (At.s (At.s (At.s (At.s (At.s (At.s (At.s At.z))))))))) | exact At.s (At.s (At.s (At.s (At.s (At.s (At.s (At.s (At.s (At.s (At.s At.z)))))))))) | exact At.s (At.s (At.s (At.s (At.s (At.s (At.s (At.s (At.s (At.s (At.s (At.s At.z))))))))))) | exact At.s (At.s (At.s (At.s (At.s (At.s (At.s (At.s (At.s (At.s (At.s (At.s (At.s At.z)))))))))))) | exact At.s (At.s (At.s (At.s (At.s (At.s (At.s (At.s (At.s (At.s (At.s (At.s (At.s (At.s At.z))))))))))))) | exact At.s (At.s (At.s (At.s (At.s (At.s (At.s (At.s (At.s (At.s (At.s (At.s (At.s (At.s (At.s At.z)))))))))))))) | exact At.s (At.s (At.s (At.s (At.s (At.s (At.s (At.s (At.s (At.s (At.s (At.s (At.s (At.s (At.s (At.s At.z))))))))))))))) | exact At.s (At.s (At.s (At.s (At.s (At.s (At.s (At.s (At.s (At.s (At.s (At.s (At.s (At.s (At.s (At.s (At.s At.z)))))))))))))))) | exact At.s (At.s (At.s (At.s (At.s (At.s (At.s (At.s (At.s (At.s (At.s (At.s (At.s (At.s (At.s (At.s (At.s (At.s At.z))))))))))))))))) | exact At.s (At.s (At.s (At.s (At.s (At.s (At.s (At.s (At.s (At.s (At.s (At.s (At.s (At.s (At.s (At.s (At.s (At.s (At.s At.z)))))))))))))))))) | exact At.s (At.s (At.s (At.s (At.s (At.s (At.s (At.s (At.s (At.s (At.s (At.s (At.s (At.s (At.s (At.s (At.s (At.s (At.s (At.s At.z))))))))))))))))))) | exact At.s (At.s (At.s (At.s (At.s (At.s (At.s (At.s (At.s (At.s (At.s (At.s (At.s (At.s (At.s (At.s (At.s (At.s (At.s (At.s (At.s At.z)))))))))))))))))))))
local macro_rules | `(tactic| walk_at "call") => `(tactic| first
  | ((with_reducible show We _ _ (.Call (.Name "len" _) _ _ _) _ _ _); refine b_len (by walk_at "fam") (by assumption) ?_)
  | ((with_reducible show We _ _ (.Call (.Name "isinstance" _) [_, .Name "int" _] _ _) _ _ _); refine b_isiInt (by walk_at "fam") (by assumption) ?_)
  | ((with_reducible show We _ _ (.Call (.Name "isinstance" _) [_, .Name "bool" _] _ _) _ _ _); refine b_isiBool (by walk_at "fam") (by assumption) ?_)
  | ((with_reducible show We _ _ (.Call (.Name "isinstance" _) [_, .Name "tuple" _] _ _) _ _ _); refine b_isiTup (by walk_at "fam") (by assumption) ?_)
  | ((with_reducible show We _ _ (.Call (.Name "isinstance" _) [_, .Name "str" _] _ _) _ _ _); refine b_isi (T := "str") (n := "str") (by walk_at "fam") (by assumption) (Bx.str (by assumption)) bo_str ?_)
  | ((with_reducible show We _ _ (.Call (.Name "max" _) [_, _] _ _) _ _ _); refine b_max2 (by walk_at "fam") (Bx.max (by assumption)) ?_)
  | ((with_reducible show We _ _ (.Call (.Name "dict" _) _ _ _) _ _ _); refine b_dict (by walk_at "fam") (Bx.dict (by assumption)) ?_)
  | ((with_reducible show We _ _ (.Call (.Name "all" _) _ _ _) _ _ _); refine b_all (by walk_at "fam") (Bx.all (by assumption)) ?_)
  | ((with_reducible show We _ _ (.Call (.Name "abs" _) _ _ _) _ _ _); refine b_abs (by walk_at "fam") (by assumption) ?_)
  | ((with_reducible show We _ _ (.Call (.Name "int" _) _ _ _) _ _ _); refine b_intB (by walk_at "fam") (by assumption) ?_)
  | ((with_reducible show We _ _ (.Call (.Name "tuple" _) _ _ _) _ _ _); refine b_tup (by walk_at "fam") (by assumption) ?_)
  | ((with_reducible show We _ _ (.Call (.Name "list" _) [.Call (.Name "range" _) _ _ _] _ _) _ _ _); refine we_listRg (by walk_at "fam") (Bt.list (by assumption)) (Bt.range (by assumption)) ?_)
  | ((with_reducible show We _ _ (.Call (.Name "list" _) _ _ _) _ _ _); refine b_lst (by walk_at "fam") (by assumption) ?_)
  | ((with_reducible show We _ _ (.Call (.Name "min" _) [_, _] _ _) _ _ _); refine b_min2 (by walk_at "fam") (by assumption) ?_)
  | ((with_reducible show We _ _ (.Call (.Name "min" _) [_] [_] _) _ _ _); refine we_minDD (by walk_at "fam") (Bt.min (by assumption)) ?_)
  | ((with_reducible show We _ _ (.Call (.Name "min" _) [_] [] _) _ _ _); refine b_min1 (by walk_at "fam") (by assumption) ?_)
  | ((with_reducible show We _ _ (.Call (.Name "sorted" _) _ _ _) _ _ _); refine b_sorted (by walk_at "fam") (by assumption) ?_)
  | ((with_reducible show We _ _ (.Call (.Attribute _ "append" _) _ _ _) _ _ _); refine we_append (by walk_at "fam") ?_)
  | ((with_reducible show We _ _ (.Call (.Attribute _ "insert" _) [_, _] _ _) _ _ _); refine we_insert (by walk_at "fam") ?_)
  | ((with_reducible show We _ _ (.Call (.Name "max" _) [_] _ _) _ _ _); refine b_maxI (by walk_at "fam") (Bx.max (by assumption)) ?_)
  | ((with_reducible show We _ _ (.Call (.Attribute _ "extend" _) _ _ _) _ _ _); refine we_extend (by walk_at "fam") ?_)
  | ((with_reducible show We _ _ (.Call (.Attribute _ "pop" _) [_, _] _ _) _ _ _); refine we_dpop (by walk_at "fam") ?_)
  | ((with_reducible show We _ _ (.Call (.Name _ _) _ _ _) _ _ _); refine we_call (by walk_at "fam") (by assumption) (by decide) ?_)
  | ((with_reducible show We _ _ (.Call (.Name _ _) [] _ _) _ _ _); refine we_make0 (by walk_at "fam") (by assumption) (by decide) ?_)
  | ((with_reducible show We _ _ (.Call (.Name _ _) _ _ _) _ _ _); refine we_make (by walk_at "fam") (by assumption) (by decide) ?_)
  | ((with_reducible show We _ _ (.Call (.Attribute _ _ _) (_ :: _) _ _) _ _ _); refine we_meth (by walk_at "fam") (by assumption) (by decide) ?_)
  | ((with_reducible show We _ _ (.Call (.Attribute _ _ _) [] _ _) _ _ _); refine we_meth0 (by walk_at "fam") (by assumption) (by decide) ?_))
local macro_rules | `(tactic| walk_at "e") => `(tactic| first
  | ((with_reducible show We _ _ (.Name _ _) _ _ _); first | refine we_varA (by walk_at "fam") (by walk_at "at") (by rfl) ?_ | refine we_gint (by walk_at "fam") (by assumption) ?_)
  | ((with_reducible show We _ _ (.Constant _ _ _) _ _ _); first | refine we_int ?_ | refine we_bl ?_ | refine we_non ?_ | refine we_str ?_)
  | ((with_reducible show We _ _ (.BinOp _ _ _ _) _ _ _); refine we_bin ?_)
  | ((with_reducible show We _ _ (.Compare _ [_] _ _) _ _ _); refine we_cmp ?_)
  | ((with_reducible show We _ _ (.Compare _ [_, _] _ _) _ _ _); refine we_chain ?_)
  | ((with_reducible show We _ _ (.BoolOp _ [_] _) _ _ _); refine we_one ?_)
  | ((with_reducible show We _ _ (.BoolOp .And _ _) _ _ _); refine we_and ?_)
  | ((with_reducible show We _ _ (.BoolOp .Or _ _) _ _ _); refine we_or ?_)
  | ((with_reducible show We _ _ (.UnaryOp .Not _ _) _ _ _); refine we_not ?_)
  | ((with_reducible show We _ _ (.UnaryOp .USub _ _) _ _ _); refine we_negI ?_)
  | ((with_reducible show We _ _ (.Dict [] [] _) _ _ _); refine we_dnew ?_)
  | ((with_reducible show We _ _ (.IfExp _ _ _ _) _ _ _); refine we_ifExp ?_)
  | ((with_reducible show We _ _ (.Tuple _ _ _) _ _ _); refine we_tup ?_)
  | ((with_reducible show We _ _ (.List _ _) _ _ _); refine we_lst ?_)
  | ((with_reducible show We _ _ (.Subscript _ (.Slice _ _ _ _) _) _ _ _); refine we_slice (by walk_at "fam") ?_)
  | ((with_reducible show We _ _ (.Subscript _ _ _) _ _ _); refine we_ix ?_)
  | ((with_reducible show We _ _ (.Attribute _ _ _) _ _ _); refine we_fld (by walk_at "fam") ?_)
  | walk_at "call"
  | ((with_reducible show Wo _ _ none _ _ _); refine wo_none ?_)
  | ((with_reducible show Wo _ _ (some _) _ _ _); refine wo_some ?_)
  | ((with_reducible show Wr _ _ [] _ _ _); refine wr_nil ?_)
  | ((with_reducible show Wr _ _ (_ :: _) _ _ _); refine wr_cons ?_)
  | ((with_reducible show Wt _ _ (.UnaryOp .Not _ _) _ _ _); refine wt_not ?_)
  | ((with_reducible show Wt _ _ (.BoolOp .And _ _) _ _ _); refine wt_w (ww_and ?_))
  | ((with_reducible show Wt _ _ (.BoolOp .Or _ _) _ _ _); refine wt_w (ww_or ?_))
  | ((with_reducible show Wt _ _ (.Compare _ [_] _ _) _ _ _); refine wt_cmp ?_)
  | ((with_reducible show Wt _ _ _ _ _ _); refine wt_val ?_)
  | ((with_reducible show Ww _ _ (.BoolOp .And [_] _) _ _ _); refine ww_and1 ?_)
  | ((with_reducible show Ww _ _ (.BoolOp .Or [_] _) _ _ _); refine ww_or1 ?_)
  | ((with_reducible show Ww _ _ (.BoolOp .And _ _) _ _ _); refine ww_and ?_)
  | ((with_reducible show Ww _ _ (.BoolOp .Or _ _) _ _ _); refine ww_or ?_)
  | ((with_reducible show Ws _ _ [] _ _ _); refine ws_nil ?_)
  | ((with_reducible show Ws _ _ (_ :: _) _ _ _); refine ws_cons ?_)
  | ((with_reducible show Ws1 _ _ (.Return (some _) _) _ _ _); refine ws_ret ?_)
  | ((with_reducible show Ws1 _ _ (.If _ _ _ _) _ _ _); refine ws_if ?_)
  | ((with_reducible show Ws1 _ _ (.Expr _ _) _ _ _); refine ws_expr ?_)
  | ((with_reducible show Ws1 _ _ (.Assign [.Name _ _] (.ListComp _ _ _ _) _) _ _ _); fail)
  | ((with_reducible show Ws1 _ _ (.Assign [.Name _ _] _ _) _ _ _); refine ws_setA (by walk_at "fam") (by walk_at "at") ?_)
  | ((with_reducible show Ws1 _ _ (.Assign [.Attribute _ _ _] _ _) _ _ _); refine ws_fld (by walk_at "fam") ?_)
  | ((with_reducible show Ws1 _ _ (.Assign [_] _ _) _ _ _); refine ws_asg ?_)
  | ((with_reducible show Wts _ _ [] _ _ _); refine wts_nil ?_)
  | ((with_reducible show Wts _ _ [_] _ _ _); refine wts_one ?_)
  | ((with_reducible show Wg _ _ _ (.Name _ _) _ _ _ _); refine wg_nameA (by walk_at "fam") (by walk_at "at") ?_)
  | ((with_reducible show Wg _ _ _ (.Tuple _ _ _) _ _ _ _); refine wg_tup (by walk_at "fam") ?_)
  | ((with_reducible show Wg _ _ _ (.Subscript _ _ _) _ _ _ _); refine wg_sub ?_)
  | refine wgs_nil ?_ | refine wgs_cons ?_)
local macro_rules | `(tactic| walk_at "w") => `(tactic| repeat walk_at "e")
def topS (i : Nat) : Stmt := PySem.Challenge.pw_wrapnets_k20_filters_and_copies.main.body.getD i (.Pass ⟨0, 0, 0, 0⟩)
abbrev stMixed : Stmt := topS 8
abbrev stDeck : Stmt := topS 9
abbrev stNext : Stmt := topS 10
theorem scMixed : FnScope ["_law_cell", "_law_at", "_law_one"] ["_law_cell", "_law_at"] (defScope stMixed) := ⟨rfl, rfl, rfl, by decide +kernel, rfl, by decide +kernel, by decide +kernel⟩
theorem scDeck : FnScope ["_law_script", "_law_found", "_law_whole", "_law_k", "_law_rest", "_law_at"] ["_law_script"] (defScope stDeck) := ⟨rfl, rfl, rfl, by decide +kernel, rfl, by decide +kernel, by decide +kernel⟩
theorem scNext : FnScope ["_law_deck_here", "_law_many", "_law_at"] ["_law_deck_here", "_law_many"] (defScope stNext) := ⟨rfl, rfl, rfl, by decide +kernel, rfl, by decide +kernel, by decide +kernel⟩
def cellsM (cs : List Int) : List MV := cs.map fun i => .d (.int i)
/-- the deck: the draws at 0, the deck itself at 1 -/
def dk (n : Nat) (w : Int) (cs : List Int) : Mm := [.lst (cellsM cs), .lst [.d (.int n), .d (.int w), .r 0]]
def sMixed (xs : List MV) (m : Mm) (Q : QV) : Prop := ∃ c a : Int, xs = [.d (.int c), .d (.int a)] ∧ 0 ≤ a ∧ a ≤ 1000000 ∧ ∀ v : Int, Q (.d (.int v)) m
def sDeck (xs : List MV) (m : Mm) (Q : QV) : Prop := ∃ ns : List Int, xs = [.s ns] ∧ m = [] ∧ ∀ w cs, Q (.r 1) (dk 0 w cs)
/-- the deck in the store: where it is, what is mixed, the draws -/
structure Dk (m : Mm) (n : Nat) (w : Int) (cs : List Int) : Prop where
  a : m[0]? = some (.lst (cellsM cs))
  b : m[1]? = some (.lst [.d (.int n), .d (.int w), .r 0])
def nxm (m : Mm) (n : Nat) (w : Int) : Mm := m.set 1 (.lst [.d (.int ((n + 1 : Nat) : Int)), .d (.int w), .r 0])
theorem dk_dk (w : Int) (cs : List Int) : Dk (dk 0 w cs) 0 w cs := ⟨rfl, rfl⟩
theorem Dk.nx {m : Mm} {n : Nat} {w : Int} {cs : List Int} (h : Dk m n w cs) : Dk (nxm m n w) (n + 1) w cs := by
  refine ⟨by unfold nxm; rw [List.getElem?_set_ne (by decide)]; exact h.a, ?_⟩
  unfold nxm
  rw [List.getElem?_set_self (List.getElem?_eq_some_iff.mp h.b).1]
theorem nxm_get {m : Mm} {n : Nat} {w : Int} {j : Nat} (h : j ≠ 1) : (nxm m n w)[j]? = m[j]? := by unfold nxm; rw [List.getElem?_set_ne (fun z => h z.symm)]
theorem nxm_len {m : Mm} {n : Nat} {w : Int} : (nxm m n w).length = m.length := by unfold nxm; rw [List.length_set]
theorem Dk.set {m : Mm} {n : Nat} {w : Int} {cs : List Int} (h : Dk m n w cs) {j : Nat} (o : MO) (h0 : j ≠ 0) (h1 : j ≠ 1) : Dk (m.set j o) n w cs := ⟨by rw [List.getElem?_set_ne h0]; exact h.a, by rw [List.getElem?_set_ne h1]; exact h.b⟩
theorem Dk.app {m : Mm} {n : Nat} {w : Int} {cs : List Int} (h : Dk m n w cs) (t : Mm) : Dk (m ++ t) n w cs := ⟨app_get h.a, app_get h.b⟩
theorem Dk.ne {m : Mm} {n : Nat} {w : Int} {cs : List Int} (h : Dk m n w cs) {j : Nat} {o : MO} (hj : m[j]? = some o) (ho : ∀ xs, o ≠ .lst xs) : j ≠ 0 ∧ j ≠ 1 :=
  ⟨fun z => by subst z; rw [h.a] at hj; cases hj; exact ho _ rfl, fun z => by subst z; rw [h.b] at hj; cases hj; exact ho _ rfl⟩
def sNext (xs : List MV) (m : Mm) (Q : QV) : Prop := ∃ (n : Nat) (w : Int) (cs : List Int) (many : Nat), xs = [.r 1, .d (.int many)] ∧ Dk m n w cs ∧ n ≤ 999999 ∧ 1 ≤ many ∧ ∀ v : Nat, v < many → Q (.d (.int v)) (nxm m n w)
section
variable {P : Program} {w : World} {K : PySem.W.Frag} {mg : Str → Option Value} {base : Heap} {f : Addr} {fd : FuncData}
theorem ok_mixed (F : Fun K "_law_mixed" "_law_mixed" stMixed f fd) : FnOk P w K mg base CX0 1 f fd ["_law_cell", "_law_at"] (spM K sMixed) := by
  refine fn_m F scMixed (fun xs m Q h => by obtain ⟨_, _, rfl, _⟩ := h; rfl) fun X Fm xs m Q ⟨c, a, ex, a0, a1, q⟩ hs => ?_
  subst ex
  refine ws_cons ?_
  walk_at "w"
  refine o_mod (by decide) ?_
  walk_at "w"
  refine o_mul (.inr ⟨by decide, by decide⟩) ?_
  walk_at "w"
  refine o_add ?_
  walk_at "w"
  refine o_add ?_
  refine o_mul (.inl ⟨by omega, by omega⟩) ?_
  walk_at "w"
  refine o_mul (.inr ⟨by decide, by decide⟩) ?_
  refine o_add ?_
  walk_at "w"
  refine o_add ?_
  walk_at "w"
  refine o_mod (by decide) ?_
  have h1 := Int.emod_nonneg (c % 2147483629 * 48271 + (a + 1) * (a + 1) * 7919 + 11) (show (2147483647 : Int) ≠ 0 by decide)
  have h2 := Int.emod_lt_of_pos (c % 2147483629 * 48271 + (a + 1) * (a + 1) * 7919 + 11) (show (0 : Int) < 2147483647 by decide)
  generalize (c % 2147483629 * 48271 + (a + 1) * (a + 1) * 7919 + 11) % 2147483647 = z at h1 h2 ⊢
  walk_at "w"
  refine o_mul (.inl ⟨by omega, by omega⟩) ?_
  walk_at "w"
  refine o_mod (by decide) ?_
  walk_at "w"
  refine o_fdiv ⟨by decide, by decide⟩ (.inl (q _))
theorem cells_len (cs : List Int) : (cellsM cs).length = cs.length := by unfold cellsM; rw [List.length_map]
theorem cells_at {cs : List Int} {k : Nat} {c : Int} (h : cs[k]? = some c) : (cellsM cs)[k]? = some (.d (.int c)) := by unfold cellsM; rw [List.getElem?_map, h]; rfl
theorem ok_deck (F : Fun K "_law_deck" "_law_deck" stDeck f fd) (B : Bt mg) (C1 : Cal P w K mg base 1 "_law_mixed" 2 sMixed) : FnOk P w K mg base CX0 2 f fd ["_law_script"] (spM K sDeck) := by
  refine fn_m F scDeck (fun xs m Q h => by obtain ⟨_, rfl, _⟩ := h; rfl) fun X Fm xs m Q ⟨ns, ex, em, q⟩ hs => ?_
  subst ex em
  refine ws_cons ?_
  walk_at "w"
  refine ⟨by simp, .inr ?_⟩
  refine ws_cons (ws_setA Fm (by walk_at "at") (b_lenS Fm B ?_))
  walk_at "w"
  refine ⟨ns, rfl, ?_⟩
  refine ws_cut (fun ρ' m' => ∃ (cs : List Int) (w : Int) (u3 u4 u5 : Option MV), ρ' = [some (.s ns), some (.r 0), some (.d (.int w)), u3, u4, u5] ∧ m' = [.lst (cellsM cs)]) ?_ ?_
  · refine ws_for Fm (wi_range1 Fm B.range (wr_cons (b_min2 Fm B (b_lenS Fm B ?_))))
    walk_at "w"
    refine ⟨ns, rfl, ?_⟩
    walk_at "w"
    refine ⟨_, _, rfl, rfl, ?_⟩
    have hb : (if (63 : Int) < (ns.length : Nat) then (63 : Int) else (ns.length : Nat)) = ((min ns.length 63 : Nat) : Int) := by split <;> omega
    rw [hb]
    walk_at "w"
    refine ⟨_, rfl, by omega, by omega, fun i ρ' m' => ∃ (cs : List Int) (w : Int) (u3 u4 u5 : Option MV), ρ' = [some (.s ns), some (.r 0), some (.d (.int w)), u3, u4, u5] ∧ m' = [.lst (cellsM cs)] ∧ cs.length ≤ 3000 + 6 * i, ⟨[], _, _, _, _, rfl, rfl, by simp⟩, fun _ _ _ _ _ => trivial, ?_, ?_⟩
    · rintro i x ρ' m' hx ⟨cs, w, u3, u4, u5, rfl, rfl, hl⟩
      obtain ⟨hi, rfl⟩ := rangeM_some hx
      have hi' : i < ns.length ∧ i < 63 := by omega
      obtain ⟨c, hc⟩ : ∃ c, ns[i]? = some c := ⟨ns[i], List.getElem?_eq_getElem hi'.1⟩
      rw [Int.zero_add]
      walk_at "w"
      refine ix_s Fm (atI_of hc rfl) ?_
      refine ws_cut (fun ρ' m' => ∃ (cs : List Int) (u4 u5 : Option MV), ρ' = [some (.s ns), some (.r 0), some (.d (.int w)), some (.d (.int i)), u4, u5] ∧ m' = [.lst (cellsM cs)] ∧ cs.length ≤ 3000 + 6 * (i + 1)) ?_ ?_
      · walk_at "w"
        refine o_pow ⟨by decide, by decide, by decide⟩ ?_
        refine o_ge ⟨_, rfl, ?_⟩
        by_cases hb : (10 : Int) ^ (18 : Int).toNat ≤ c
        · rw [decide_eq_true hb]
          refine L2.iteT ?_
          refine ws_cons (ws_while Fm (fun n ρ' m' => ∃ (cs : List Int) (r : Int) (u5 : Option MV), ρ' = [some (.s ns), some (.r 0), some (.d (.int w)), some (.d (.int i)), some (.d (.int r)), u5] ∧ m' = [.lst (cellsM cs)] ∧ cs.length ≤ 3000 + 6 * i ∧ n = 3000 - cs.length) (n0 := 3000 - cs.length) ⟨cs, c, _, rfl, rfl, hl, rfl⟩ ?_)
          rintro n ρ' m' ⟨cs, r, u5, rfl, rfl, hl, rfl⟩
          walk_at "w"
          refine o_gt ⟨_, rfl, ?_⟩
          by_cases hr : 0 < r
          · rw [decide_eq_true hr]
            refine L2.iteT ?_
            walk_at "w"
            refine ⟨cellsM cs, rfl, ?_⟩
            walk_at "w"
            refine o_lt ⟨_, rfl, ?_⟩
            rw [cells_len]
            by_cases h3 : cs.length < 3000
            · rw [decide_eq_true (by omega)]
              refine L2.iteT ?_
              walk_at "w"
              refine ⟨0, _, rfl, rfl, ?_⟩
              walk_at "w"
              refine o_mod (by decide) ⟨cellsM cs, rfl, by rw [cells_len]; omega, ?_⟩
              walk_at "w"
              refine o_fdiv ⟨by decide, by decide⟩ ?_
              walk_at "w"
              refine ⟨_, ?_, cs ++ [r % 1000000], _, _, rfl, ?_, ?_, rfl⟩
              · simp; omega
              · show [MO.lst (cellsM cs ++ [_])] = _; unfold cellsM; rw [List.map_append]; rfl
              · simp; omega
            · rw [decide_eq_false (by omega)]
              refine L2.iteF ?_
              exact ws_nil ⟨cs, _, _, rfl, rfl, by omega⟩
          · rw [decide_eq_false hr]
            refine L2.iteF ?_
            exact ws_nil ⟨cs, _, _, rfl, rfl, by omega⟩
        · rw [decide_eq_false hb]
          refine L2.iteF ?_
          walk_at "w"
          refine ⟨0, _, rfl, rfl, ?_⟩
          refine we_lc Fm [("_law_at", 5)] (wi_range1 Fm B.range ?_)
          walk_at "w"
          refine ⟨6, rfl, by decide, by decide, by rw [rangeM_len]; decide, fun j acc m' => m' = [.lst (cellsM cs)] ∧ ∃ zs : List Int, zs.length = j ∧ acc = (zs.map PyData.int).map .d, ⟨rfl, [], rfl, rfl⟩, fun _ _ _ _ _ => trivial, ?_, ?_⟩
          · rintro j x acc m' hx ⟨rfl, zs, lz, rfl⟩
            obtain ⟨hj, rfl⟩ := rangeM_some hx
            have hj : j < 6 := hj
            walk_at "w"
            refine L2.iteT ?_
            walk_at "w"
            refine o_mul (.inl ⟨by decide, by decide⟩) ?_
            walk_at "w"
            refine o_add ?_
            walk_at "w"
            refine ⟨_, _, rfl, by omega, by omega, fun v => ⟨rfl, zs ++ [v], by simp [lz], by simp⟩⟩
          · rintro acc m' ⟨rfl, zs, lz, rfl⟩
            rw [rangeM_len] at lz
            have lz : zs.length = 6 := lz
            refine .inl ⟨zs.map .int, rfl, cellsM cs, (zs.map PyData.int).map .d, rfl, rfl, by rw [cells_len]; simp; omega, ?_⟩
            walk_at "w"
            refine ⟨cs ++ zs, _, _, rfl, ?_, by simp; omega⟩
            show [MO.lst (cellsM cs ++ _)] = _
            unfold cellsM
            rw [List.map_append, List.map_map]; rfl
      · rintro ρ' m' ⟨cs, u4, u5, rfl, rfl, hl⟩
        walk_at "w"
        refine o_mul (.inr ⟨by decide, by decide⟩) ?_
        walk_at "w"
        refine ix_s Fm (atI_of hc rfl) ?_
        refine o_add ?_
        walk_at "w"
        refine o_mod (by decide) ?_
        walk_at "w"
        exact ⟨cs, _, _, _, _, rfl, rfl, hl⟩
    · rintro ρ' m' ⟨cs, w, u3, u4, u5, rfl, rfl, hl⟩
      exact ⟨cs, w, _, _, _, rfl, rfl⟩
  · rintro ρ' m' ⟨cs, w, u3, u4, u5, rfl, rfl⟩
    walk_at "w"
    exact ⟨by show 3 ≤ 1000; decide, .inr (.inl (q w cs))⟩
theorem ok_next (F : Fun K "_law_next" "_law_next" stNext f fd) (B : Bt mg) (C1 : Cal P w K mg base 1 "_law_mixed" 2 sMixed) : FnOk P w K mg base CX0 2 f fd ["_law_deck_here", "_law_many"] (spM K sNext) := by
  refine fn_m F scNext (fun xs m Q h => by obtain ⟨_, _, _, _, rfl, _⟩ := h; rfl) fun X Fm xs m Q ⟨n, wh, cs, many, ex, dkk, n1, m1, q⟩ hs => ?_
  subst ex
  have fin : ∀ c : Int, ∃ v : Nat, v < many ∧ c % (many : Int) = (v : Int) := fun c => by
    have h1 := Int.emod_nonneg c (show (many : Int) ≠ 0 by omega)
    have h2 := Int.emod_lt_of_pos c (show (0 : Int) < (many : Int) by omega)
    exact ⟨(c % (many : Int)).toNat, by omega, by omega⟩
  refine ws_cons ?_
  walk_at "w"
  refine ix_w Fm (y := .d (.int n)) (seqOf_r dkk.b) rfl ?_
  walk_at "w"
  refine o_add ?_
  walk_at "w"
  refine setw_list (k := 0) dkk.b rfl ?_
  show Ws _ _ _ _ (nxm m n wh) _
  have dk2 := dkk.nx
  walk_at "w"
  refine ix_w Fm (y := .r 0) (seqOf_r dk2.b) rfl ?_
  refine ⟨cellsM cs, seqOf_r dk2.a, ?_⟩
  rw [cells_len]
  refine o_lt ⟨_, rfl, ?_⟩
  by_cases h : n < cs.length
  · rw [decide_eq_true (by omega)]
    refine L2.iteT ?_
    walk_at "w"
    refine ix_w Fm (y := .r 0) (seqOf_r dk2.b) rfl ?_
    walk_at "w"
    obtain ⟨c, hc⟩ : ∃ c, cs[n]? = some c := ⟨cs[n], List.getElem?_eq_getElem h⟩
    refine ix_w Fm (y := .d (.int c)) (seqOf_r dk2.a) (atI_of (cells_at hc) rfl) ?_
    walk_at "w"
    refine o_mod (by omega) (.inl ?_)
    obtain ⟨v, hv, e⟩ := fin c
    rw [e]
    exact q v hv
  · rw [decide_eq_false (by omega)]
    refine L2.iteF ?_
    walk_at "w"
    refine ix_w Fm (y := .d (.int wh)) (seqOf_r dk2.b) rfl ?_
    walk_at "w"
    refine ⟨_, _, rfl, by omega, by omega, fun c => ?_⟩
    walk_at "w"
    refine o_mod (by omega) (.inl ?_)
    obtain ⟨v, hv, e⟩ := fin c
    rw [e]
    exact q v hv
end

end Wn
set_option Elab.async false
set_option linter.all false
set_option maxRecDepth 100000
set_option maxHeartbeats 2000000
set_option autoImplicit false
set_option pp.maxSteps 600
namespace Wn
open PySem L2
local macro_rules | `(tactic| walk_at "fam") => `(tactic| first | assumption | exact Fam.blk (by assumption) _ | exact Fam.blk (Fam.blk (by assumption) _) _)
local macro_rules | `(tactic| walk_at "at") => `(tactic| with_reducible first | exact At.z | exact At.s At.z | exact At.s (At.s At.z) | exact At.s (At.s (At.s At.z)) | exact At.s (At.s (At.s (At.s At.z))) | exact At.s (At.s (At.s (At.s (At.s At.z)))) | exact At.s (At.s (At.s (At.s (At.s (At.s At.z))))) | exact At.s (At.s (At.s (At.s (At.s (At.s (At.s At.z)))))) | exact At.s (At.s (At.s (At.s (At.s (At.s (At.s (At.s At.z))))))) | exact At.s (At.s (At.s (At.s (At.s (At.s (At.s (At.s (At.s At.z)))))))) | exact At.s (At.s (At.s (At.s (At.s (At.s (At.s (At.s (At.s (At.s At.z))))))))) | exact At.s (At.s (At.s (At.s (At.s (At.s (At.s (At.s (At.s (At.s (At.s At.z)))))))))) | exact At.s (At.s (At.s (At.s (At.s (At.s (At.s (At.s (At.s (At.s (At.s (At.s At.z))))))))))) | exact At.s (At.s (At.s (At.s (At.s (At.s (At.s (At.s (At.s (At.s (At.s (At.s (At.s At.z)))))))))))) | exact At.s (At.s (At.s (At.s (At.s (At.s (At.s (At.s (At.s (At.s (At.s (At.s (At.s (At.s At.z))))))))))))) | exact At.s (At.s (At.s (At.s (At.s (At.s (At.s (At.s (At.s (At.s (At.s (At.s (At.s (At.s (At.s At.z)))))))))))))) | exact At.s (At.s (At.s (At.s (At.s (At.s (At.s (At.s (At.s (At.s (At.s (At.s (At.s (At.s (At.s (At.s At.z))))))))))))))) | exact At.s (At.s (At.s (At.s (At.s (At.s (At.s (At.s (At.s (At.s (At.s (At.s (At.s (At.s (At.s (At.s (At.s At.z)))))))))))))))) | exact At.s (At.s (At.s (At.s (At.s (At.s (At.s (At.s (At.s (At.s (At.s (At.s (At.s (At.s (At.s (At.s (At.s (At.s At.z))))))))))))))))) | exact At.s (At.s (At.s (At.s (At.s (At.s (At.s (At.s (At.s (At.s (At.s (At.s (At.s (At.s (At.s (At.s (At.s (At.s (At.s At.z)))))))))))))))))) | exact At.s (At.s (At.s (At.s (At.s (At.s (At.s (At.s (At.s (At.s (At.s (At.s (At.s (At.s (At.s (At.s (At.s (At.s (At.s (At.s At.z))))))))))))))))))) | exact At.s (At.s (At.s (At.s (At.s (At.s (At.s (At.s (At.s (At.s (At.s (At.s (At.s (At.s (At.s (At.s (At.s (At.s (At.s (At.s (At.s At.z)))))))))))))))))))))
local macro_rules | `(tactic| walk_at "call") => `(tactic| first
  | ((with_reducible show We _ _ (.Call (.Name "len" _) _ _ _) _ _ _); refine b_len (by walk_at "fam") (by assumption) ?_)
  | ((with_reducible show We _ _ (.Call (.Name "isinstance" _) [_, .Name "int" _] _ _) _ _ _); refine b_isiInt (by walk_at "fam") (by assumption) ?_)
  | ((with_reducible show We _ _ (.Call (.Name "isinstance" _) [_, .Name "bool" _] _ _) _ _ _); refine b_isiBool (by walk_at "fam") (by assumption) ?_)
  | ((with_reducible show We _ _ (.Call (.Name "isinstance" _) [_, .Name "tuple" _] _ _) _ _ _); refine b_isiTup (by walk_at "fam") (by assumption) ?_)
  | ((with_reducible show We _ _ (.Call (.Name "isinstance" _) [_, .Name "str" _] _ _) _ _ _); refine b_isi (T := "str") (n := "str") (by walk_at "fam") (by assumption) (Bx.str (by assumption)) bo_str ?_)
  | ((with_reducible show We _ _ (.Call (.Name "max" _) [_, _] _ _) _ _ _); refine b_max2 (by walk_at "fam") (Bx.max (by assumption)) ?_)
  | ((with_reducible show We _ _ (.Call (.Name "dict" _) _ _ _) _ _ _); refine b_dict (by walk_at "fam") (Bx.dict (by assumption)) ?_)
  | ((with_reducible show We _ _ (.Call (.Name "all" _) _ _ _) _ _ _); refine b_all (by walk_at "fam") (Bx.all (by assumption)) ?_)
  | ((with_reducible show We _ _ (.Call (.Name "abs" _) _ _ _) _ _ _); refine b_abs (by walk_at "fam") (by assumption) ?_)
  | ((with_reducible show We _ _ (.Call (.Name "int" _) _ _ _) _ _ _); refine b_intB (by walk_at "fam") (by assumption) ?_)
  | ((with_reducible show We _ _ (.Call (.Name "tuple" _) _ _ _) _ _ _); refine b_tup (by walk_at "fam") (by assumption) ?_)
  | ((with_reducible show We _ _ (.Call (.Name "list" _) [.Call (.Name "range" _) _ _ _] _ _) _ _ _); refine we_listRg (by walk_at "fam") (Bt.list (by assumption)) (Bt.range (by assumption)) ?_)
  | ((with_reducible show We _ _ (.Call (.Name "list" _) _ _ _) _ _ _); refine b_lst (by walk_at "fam") (by assumption) ?_)
  | ((with_reducible show We _ _ (.Call (.Name "min" _) [_, _] _ _) _ _ _); refine b_min2 (by walk_at "fam") (by assumption) ?_)
  | ((with_reducible show We _ _ (.Call (.Name "min" _) [_] [_] _) _ _ _); refine we_minDD (by walk_at "fam") (Bt.min (by assumption)) ?_)
  | ((with_reducible show We _ _ (.Call (.Name "min" _) [_] [] _) _ _ _); refine b_min1 (by walk_at "fam") (by assumption) ?_)
  | ((with_reducible show We _ _ (.Call (.Name "sorted" _) _ _ _) _ _ _); refine b_sorted (by walk_at "fam") (by assumption) ?_)
  | ((with_reducible show We _ _ (.Call (.Attribute _ "append" _) _ _ _) _ _ _); refine we_append (by walk_at "fam") ?_)
  | ((with_reducible show We _ _ (.Call (.Attribute _ "insert" _) [_, _] _ _) _ _ _); refine we_insert (by walk_at "fam") ?_)
  | ((with_reducible show We _ _ (.Call (.Name "max" _) [_] _ _) _ _ _); refine b_maxI (by walk_at "fam") (Bx.max (by assumption)) ?_)
  | ((with_reducible show We _ _ (.Call (.Attribute _ "extend" _) _ _ _) _ _ _); refine we_extend (by walk_at "fam") ?_)
  | ((with_reducible show We _ _ (.Call (.Attribute _ "pop" _) [_, _] _ _) _ _ _); refine we_dpop (by walk_at "fam") ?_)
  | ((with_reducible show We _ _ (.Call (.Name _ _) _ _ _) _ _ _); refine we_call (by walk_at "fam") (by assumption) (by decide) ?_)
  | ((with_reducible show We _ _ (.Call (.Name _ _) [] _ _) _ _ _); refine we_make0 (by walk_at "fam") (by assumption) (by decide) ?_)
  | ((with_reducible show We _ _ (.Call (.Name _ _) _ _ _) _ _ _); refine we_make (by walk_at "fam") (by assumption) (by decide) ?_)
  | ((with_reducible show We _ _ (.Call (.Attribute _ _ _) (_ :: _) _ _) _ _ _); refine we_meth (by walk_at "fam") (by assumption) (by decide) ?_)
  | ((with_reducible show We _ _ (.Call (.Attribute _ _ _) [] _ _) _ _ _); refine we_meth0 (by walk_at "fam") (by assumption) (by decide) ?_))
local macro_rules | `(tactic| walk_at "e") => `(tactic| first
  | ((with_reducible show We _ _ (.Name _ _) _ _ _); first | refine we_varA (by walk_at "fam") (by walk_at "at") (by rfl) ?_ | refine we_gint (by walk_at "fam") (by assumption) ?_)
  | ((with_reducible show We _ _ (.Constant _ _ _) _ _ _); first | refine we_int ?_ | refine we_bl ?_ | refine we_non ?_ | refine we_str ?_)
  | ((with_reducible show We _ _ (.BinOp _ _ _ _) _ _ _); refine we_bin ?_)
  | ((with_reducible show We _ _ (.Compare _ [_] _ _) _ _ _); refine we_cmp ?_)
  | ((with_reducible show We _ _ (.Compare _ [_, _] _ _) _ _ _); refine we_chain ?_)
  | ((with_reducible show We _ _ (.BoolOp _ [_] _) _ _ _); refine we_one ?_)
  | ((with_reducible show We _ _ (.BoolOp .And _ _) _ _ _); refine we_and ?_)
  | ((with_reducible show We _ _ (.BoolOp .Or _ _) _ _ _); refine we_or ?_)
  | ((with_reducible show We _ _ (.UnaryOp .Not _ _) _ _ _); refine we_not ?_)
  | ((with_reducible show We _ _ (.UnaryOp .USub _ _) _ _ _); refine we_negI ?_)
  | ((with_reducible show We _ _ (.Dict [] [] _) _ _ _); refine we_dnew ?_)
  | ((with_reducible show We _ _ (.IfExp _ _ _ _) _ _ _); refine we_ifExp ?_)
  | ((with_reducible show We _ _ (.Tuple _ _ _) _ _ _); refine we_tup ?_)
  | ((with_reducible show We _ _ (.List _ _) _ _ _); refine we_lst ?_)
  | ((with_reducible show We _ _ (.Subscript _ (.Slice _ _ _ _) _) _ _ _); refine we_slice (by walk_at "fam") ?_)
  | ((with_reducible show We _ _ (.Subscript _ _ _) _ _ _); refine we_ix ?_)
  | ((with_reducible show We _ _ (.Attribute _ _ _) _ _ _); refine we_fld (by walk_at "fam") ?_)
  | walk_at "call"
  | ((with_reducible show Wo _ _ none _ _ _); refine wo_none ?_)
  | ((with_reducible show Wo _ _ (some _) _ _ _); refine wo_some ?_)
  | ((with_reducible show Wr _ _ [] _ _ _); refine wr_nil ?_)
  | ((with_reducible show Wr _ _ (_ :: _) _ _ _); refine wr_cons ?_)
  | ((with_reducible show Wt _ _ (.UnaryOp .Not _ _) _ _ _); refine wt_not ?_)
  | ((with_reducible show Wt _ _ (.BoolOp .And _ _) _ _ _); refine wt_w (ww_and ?_))
  | ((with_reducible show Wt _ _ (.BoolOp .Or _ _) _ _ _); refine wt_w (ww_or ?_))
  | ((with_reducible show Wt _ _ (.Compare _ [_] _ _) _ _ _); refine wt_cmp ?_)
  | ((with_reducible show Wt _ _ _ _ _ _); refine wt_val ?_)
  | ((with_reducible show Ww _ _ (.BoolOp .And [_] _) _ _ _); refine ww_and1 ?_)
  | ((with_reducible show Ww _ _ (.BoolOp .Or [_] _) _ _ _); refine ww_or1 ?_)
  | ((with_reducible show Ww _ _ (.BoolOp .And _ _) _ _ _); refine ww_and ?_)
  | ((with_reducible show Ww _ _ (.BoolOp .Or _ _) _ _ _); refine ww_or ?_)
  | ((with_reducible show Ws _ _ [] _ _ _); refine ws_nil ?_)
  | ((with_reducible show Ws _ _ (_ :: _) _ _ _); refine ws_cons ?_)
  | ((with_reducible show Ws1 _ _ (.Return (some _) _) _ _ _); refine ws_ret ?_)
  | ((with_reducible show Ws1 _ _ (.If _ _ _ _) _ _ _); refine ws_if ?_)
  | ((with_reducible show Ws1 _ _ (.Expr _ _) _ _ _); refine ws_expr ?_)
  | ((with_reducible show Ws1 _ _ (.Assign [.Name _ _] (.ListComp _ _ _ _) _) _ _ _); fail)
  | ((with_reducible show Ws1 _ _ (.Assign [.Name _ _] _ _) _ _ _); refine ws_setA (by walk_at "fam") (by walk_at "at") ?_)
  | ((with_reducible show Ws1 _ _ (.Assign [.Attribute _ _ _] _ _) _ _ _); refine ws_fld (by walk_at "fam") ?_)
  | ((with_reducible show Ws1 _ _ (.Assign [_] _ _) _ _ _); refine ws_asg ?_)
  | ((with_reducible show Wts _ _ [] _ _ _); refine wts_nil ?_)
  | ((with_reducible show Wts _ _ [_] _ _ _); refine wts_one ?_)
  | ((with_reducible show Wg _ _ _ (.Name _ _) _ _ _ _); refine wg_nameA (by walk_at "fam") (by walk_at "at") ?_)
  | ((with_reducible show Wg _ _ _ (.Tuple _ _ _) _ _ _ _); refine wg_tup (by walk_at "fam") ?_)
  | ((with_reducible show Wg _ _ _ (.Subscript _ _ _) _ _ _ _); refine wg_sub ?_)
  | refine wgs_nil ?_ | refine wgs_cons ?_)
local macro_rules | `(tactic| walk_at "w") => `(tactic| repeat walk_at "e")
abbrev stSame : Stmt := topS 11
theorem scSame : FnScope ["_law_thing", "_law_due_here", "_law_k"] ["_law_thing", "_law_due_here"] (defScope stSame) := ⟨rfl, rfl, rfl, by decide +kernel, rfl, by decide +kernel, by decide +kernel⟩
/-- atoms, and tuples of these, n deep -/
def fit : Nat → PyData → Prop
  | _, .none => True
  | _, .bool _ => True
  | _, .int _ => True
  | _, .str _ => True
  | n + 1, .tuple ds => ds.length ≤ 1000 ∧ ∀ e ∈ ds, fit n e
  | _, _ => False
def sSame (n : Nat) (xs : List MV) (m : Mm) (Q : QV) : Prop := ∃ d, xs = [.d d, .d d] ∧ fit n d ∧ Q (.d (.bool true)) m
theorem eqv_atom {d : PyData} (h : fit 0 d) : PyData.eqv d d = true := by
  cases d with
  | none => rfl
  | bool b => cases b <;> rfl
  | int i => rw [eqv_int]; simp
  | str s => simp [PyData.eqv]
  | list _ => exact h.elim
  | tuple _ => exact h.elim
  | dict _ => exact h.elim
section
variable {P : Program} {w : World} {K : PySem.W.Frag} {mg : Str → Option Value} {base : Heap} {f : Addr} {fd : FuncData}
theorem ok_same (F : Fun K "_law_same" "_law_same" stSame f fd) (B : Bt mg) (B2 : Bx mg) (n : Nat) (C : ∀ n', n = n' + 1 → Cal P w K mg base (n' + 1) "_law_same" 2 (sSame n')) : FnOk P w K mg base CX0 (n + 1) f fd ["_law_thing", "_law_due_here"] (spM K (sSame n)) := by
  refine fn_m F scSame (fun xs m Q h => by obtain ⟨_, rfl, _⟩ := h; rfl) fun X Fm xs m Q ⟨d, ex, hf, q⟩ hs => ?_
  subst ex
  refine ws_cons ?_
  walk_at "w"
  refine ⟨d, rfl, _, rfl, ?_⟩
  cases d with
  | list _ => cases n <;> exact hf.elim
  | dict _ => cases n <;> exact hf.elim
  | none =>
    refine L2.iteF ?_
    walk_at "w"
    refine ⟨_, rfl, _, rfl, L2.iteF ?_⟩
    walk_at "w"
    refine o_isN ⟨_, rfl, L2.iteT ?_⟩
    walk_at "w"
    refine ⟨_, rfl, ?_⟩
    walk_at "w"
    refine ⟨_, rfl, o_eq Fm rfl rfl rfl rfl (by simp [PyData.depth]) ⟨_, rfl, L2.iteT ?_⟩⟩
    walk_at "w"
    refine o_isN ?_
    walk_at "w"
    refine o_isN (o_eq Fm rfl rfl rfl rfl (by simp [PyData.depth]) ⟨_, rfl, L2.iteT ?_⟩)
    walk_at "w"
    exact o_eq Fm rfl rfl rfl rfl (by simp [PyData.depth]) (.inl q)
  | bool b =>
    refine L2.iteF ?_
    walk_at "w"
    refine ⟨_, rfl, _, rfl, L2.iteT (L2.iteT ?_)⟩
    walk_at "w"
    refine ⟨_, rfl, ?_⟩
    walk_at "w"
    refine ⟨_, rfl, o_eq Fm rfl rfl rfl rfl (by simp [PyData.depth]) ⟨_, rfl, L2.iteT ?_⟩⟩
    walk_at "w"
    refine o_isN ?_
    walk_at "w"
    refine o_isN (o_eq Fm rfl rfl rfl rfl (by simp [PyData.depth]) ⟨_, rfl, L2.iteT ?_⟩)
    walk_at "w"
    refine o_eq Fm rfl rfl rfl rfl (by simp [PyData.depth]) ?_
    rw [eqv_atom (d := .bool b) trivial]
    exact .inl q
  | str s =>
    refine L2.iteF ?_
    walk_at "w"
    refine ⟨_, rfl, _, rfl, L2.iteF ?_⟩
    walk_at "w"
    refine o_isN ⟨_, rfl, L2.iteF ?_⟩
    walk_at "w"
    refine ⟨_, _, rfl, rfl, _, rfl, L2.iteT ?_⟩
    walk_at "w"
    refine ⟨_, _, rfl, rfl, _, rfl, L2.iteT ?_⟩
    walk_at "w"
    refine o_eq Fm rfl rfl rfl rfl (by simp [PyData.depth]) ?_
    rw [eqv_atom (d := .str s) trivial]
    exact .inl q
  | int i =>
    refine L2.iteF ?_
    walk_at "w"
    refine ⟨_, rfl, _, rfl, L2.iteF ?_⟩
    walk_at "w"
    refine o_isN ⟨_, rfl, L2.iteF ?_⟩
    walk_at "w"
    refine ⟨_, _, rfl, rfl, _, rfl, L2.iteF ?_⟩
    walk_at "w"
    refine ⟨_, rfl, _, rfl, L2.iteT ?_⟩
    walk_at "w"
    refine ⟨_, rfl, _, rfl, _, rfl, L2.iteT ?_⟩
    walk_at "w"
    refine o_eq Fm rfl rfl rfl rfl (by simp [PyData.depth]) ?_
    rw [eqv_atom (d := .int i) trivial]
    exact .inl q
  | tuple ds =>
    cases n with
    | zero => exact hf.elim
    | succ n =>
      obtain ⟨hl, hf⟩ := hf
      have C1 := C n rfl
      refine L2.iteT ?_
      walk_at "w"
      refine ⟨_, rfl, _, rfl, L2.iteF ?_⟩
      walk_at "w"
      refine ⟨_, rfl, ?_⟩
      walk_at "w"
      refine ⟨_, rfl, o_neI Fm ⟨_, rfl, ?_⟩⟩
      rw [decide_eq_true rfl]
      refine L2.iteF ?_
      walk_at "w"
      refine we_lc Fm [("_law_k", 2)] (wi_range1 Fm B.range ?_)
      walk_at "w"
      refine ⟨_, rfl, ?_⟩
      walk_at "w"
      refine ⟨_, rfl, by omega, by simp; omega, by rw [rangeM_len]; simp; omega, fun j acc m' => m' = m ∧ acc = (List.replicate j (PyData.bool true)).map .d, ⟨rfl, rfl⟩, fun _ _ _ _ _ => trivial, ?_, ?_⟩
      · rintro j x acc m' hx ⟨rfl, rfl⟩
        obtain ⟨hj, rfl⟩ := rangeM_some hx
        have hj : j < ds.length := by simpa using hj
        obtain ⟨e, he⟩ : ∃ e, ds[j]? = some e := ⟨ds[j], List.getElem?_eq_getElem hj⟩
        rw [Int.zero_add]
        walk_at "w"
        refine L2.iteT (we_call (Fam.blk Fm _) C1 (Nat.le_refl _) ?_)
        walk_at "w"
        refine ix_w (X := Blk X _) (Fam.blk Fm _) (y := .d e) (xs := ds.map .d) rfl (atI_of (by rw [List.getElem?_map, he]; rfl) rfl) ?_
        walk_at "w"
        refine ix_w (X := Blk X _) (Fam.blk Fm _) (y := .d e) (xs := ds.map .d) rfl (atI_of (by rw [List.getElem?_map, he]; rfl) rfl) ?_
        walk_at "w"
        refine ⟨e, rfl, hf e (List.mem_of_getElem? he), rfl, ?_⟩
        rw [List.replicate_succ', List.map_append]
        rfl
      · rintro acc m' ⟨rfl, rfl⟩
        rw [rangeM_len]
        refine .inl ⟨_, rfl, List.replicate (Int.toNat ((ds.map MV.d).length : Nat)) true, ?_, .inl ?_⟩
        · show some _ = some _
          simp
        · have : (List.replicate (Int.toNat ((ds.map MV.d).length : Nat)) true).all id = true := by simp
          rw [this]
          exact q
end

end Wn
set_option Elab.async false
set_option linter.all false
set_option maxRecDepth 100000
set_option maxHeartbeats 2000000
set_option autoImplicit false
set_option pp.maxSteps 600
namespace Wn
open PySem L2
local macro_rules | `(tactic| walk_at "fam") => `(tactic| first | assumption | exact Fam.blk (by assumption) _ | exact Fam.blk (Fam.blk (by assumption) _) _)
local macro_rules | `(tactic| walk_at "at") => `(tactic| with_reducible first | exact At.z | exact At.s At.z | exact At.s (At.s At.z) | exact At.s (At.s (At.s At.z)) | exact At.s (At.s (At.s (At.s At.z))) | exact At.s (At.s (At.s (At.s (At.s At.z)))) | exact At.s (At.s (At.s (At.s (At.s (At.s At.z))))) | exact At.s (At.s (At.s (At.s (At.s (At.s (At.s At.z)))))) | exact At.s (At.s (At.s (At.s (At.s (At.s (At.s (At.s At.z))))))) | exact At.s (At.s (At.s (At.s (At.s (At.s (At.s (At.s (At.s At.z)))))))) | exact At.s (At.s (At.s (At.s (At.s (At.s (At.s (At.s (At.s (At.s At.z))))))))) | exact At.s (At.s (At.s (At.s (At.s (At.s (At.s (At.s (At.s (At.s (At.s At.z)))))))))) | exact At.s (At.s (At.s (At.s (At.s (At.s (At.s (At.s (At.s (At.s (At.s (At.s At.z))))))))))) | exact At.s (At.s (At.s (At.s (At.s (At.s (At.s (At.s (At.s (At.s (At.s (At.s (At.s At.z)))))))))))) | exact At.s (At.s (At.s (At.s (At.s (At.s (At.s (At.s (At.s (At.s (At.s (At.s (At.s (At.s At.z))))))))))))) | exact At.s (At.s (At.s (At.s (At.s (At.s (At.s (At.s (At.s (At.s (At.s (At.s (At.s (At.s (At.s At.z)))))))))))))) | exact At.s (At.s (At.s (At.s (At.s (At.s (At.s (At.s (At.s (At.s (At.s (At.s (At.s (At.s (At.s (At.s At.z))))))))))))))) | exact At.s (At.s (At.s (At.s (At.s (At.s (At.s (At.s (At.s (At.s (At.s (At.s (At.s (At.s (At.s (At.s (At.s At.z)))))))))))))))) | exact At.s (At.s (At.s (At.s (At.s (At.s (At.s (At.s (At.s (At.s (At.s (At.s (At.s (At.s (At.s (At.s (At.s (At.s At.z))))))))))))))))) | exact At.s (At.s (At.s (At.s (At.s (At.s (At.s (At.s (At.s (At.s (At.s (At.s (At.s (At.s (At.s (At.s (At.s (At.s (At.s At.z)))))))))))))))))) | exact At.s (At.s (At.s (At.s (At.s (At.s (At.s (At.s (At.s (At.s (At.s (At.s (At.s (At.s (At.s (At.s (At.s (At.s (At.s (At.s At.z))))))))))))))))))) | exact At.s (At.s (At.s (At.s (At.s (At.s (At.s (At.s (At.s (At.s (At.s (At.s (At.s (At.s (At.s (At.s (At.s (At.s (At.s (At.s (At.s At.z)))))))))))))))))))))
local macro_rules | `(tactic| walk_at "call") => `(tactic| first
  | ((with_reducible show We _ _ (.Call (.Name "len" _) _ _ _) _ _ _); refine b_lenU (by walk_at "fam") (by assumption) ?_)
  | ((with_reducible show We _ _ (.Call (.Name "isinstance" _) [_, .Name "int" _] _ _) _ _ _); refine b_isiInt (by walk_at "fam") (by assumption) ?_)
  | ((with_reducible show We _ _ (.Call (.Name "isinstance" _) [_, .Name "bool" _] _ _) _ _ _); refine b_isiBool (by walk_at "fam") (by assumption) ?_)
  | ((with_reducible show We _ _ (.Call (.Name "isinstance" _) [_, .Name "tuple" _] _ _) _ _ _); refine b_isiTup (by walk_at "fam") (by assumption) ?_)
  | ((with_reducible show We _ _ (.Call (.Name "isinstance" _) [_, .Name "str" _] _ _) _ _ _); refine b_isi (T := "str") (n := "str") (by walk_at "fam") (by assumption) (Bx.str (by assumption)) bo_str ?_)
  | ((with_reducible show We _ _ (.Call (.Name "max" _) [_, _] _ _) _ _ _); refine b_max2 (by walk_at "fam") (Bx.max (by assumption)) ?_)
  | ((with_reducible show We _ _ (.Call (.Name "dict" _) _ _ _) _ _ _); refine b_dict (by walk_at "fam") (Bx.dict (by assumption)) ?_)
  | ((with_reducible show We _ _ (.Call (.Name "all" _) _ _ _) _ _ _); refine b_all (by walk_at "fam") (Bx.all (by assumption)) ?_)
  | ((with_reducible show We _ _ (.Call (.Name "abs" _) _ _ _) _ _ _); refine b_abs (by walk_at "fam") (by assumption) ?_)
  | ((with_reducible show We _ _ (.Call (.Name "int" _) _ _ _) _ _ _); refine b_intB (by walk_at "fam") (by assumption) ?_)
  | ((with_reducible show We _ _ (.Call (.Name "tuple" _) _ _ _) _ _ _); refine b_tup (by walk_at "fam") (by assumption) ?_)
  | ((with_reducible show We _ _ (.Call (.Name "list" _) [.Call (.Name "range" _) _ _ _] _ _) _ _ _); refine we_listRg (by walk_at "fam") (Bt.list (by assumption)) (Bt.range (by assumption)) ?_)
  | ((with_reducible show We _ _ (.Call (.Name "list" _) _ _ _) _ _ _); refine b_lst (by walk_at "fam") (by assumption) ?_)
  | ((with_reducible show We _ _ (.Call (.Name "min" _) [_, _] _ _) _ _ _); refine b_min2 (by walk_at "fam") (by assumption) ?_)
  | ((with_reducible show We _ _ (.Call (.Name "min" _) [_] [_] _) _ _ _); refine we_minDD (by walk_at "fam") (Bt.min (by assumption)) ?_)
  | ((with_reducible show We _ _ (.Call (.Name "min" _) [_] [] _) _ _ _); refine b_min1 (by walk_at "fam") (by assumption) ?_)
  | ((with_reducible show We _ _ (.Call (.Name "sorted" _) _ _ _) _ _ _); refine b_sorted (by walk_at "fam") (by assumption) ?_)
  | ((with_reducible show We _ _ (.Call (.Attribute _ "append" _) _ _ _) _ _ _); refine we_append (by walk_at "fam") ?_)
  | ((with_reducible show We _ _ (.Call (.Attribute _ "insert" _) [_, _] _ _) _ _ _); refine we_insert (by walk_at "fam") ?_)
  | ((with_reducible show We _ _ (.Call (.Name "max" _) [_] _ _) _ _ _); refine b_maxI (by walk_at "fam") (Bx.max (by assumption)) ?_)
  | ((with_reducible show We _ _ (.Call (.Attribute _ "join" _) [_] _ _) _ _ _); refine we_joinS (by walk_at "fam") ?_)
  | ((with_reducible show We _ _ (.Call (.Attribute _ "setdefault" _) [_, _] _ _) _ _ _); refine we_dsetd (by walk_at "fam") ?_)
  | ((with_reducible show We _ _ (.Call (.Attribute _ "partition" _) [_] _ _) _ _ _); refine we_part (by walk_at "fam") ?_)
  | ((with_reducible show We _ _ (.Call (.Attribute _ "split" _) [_] _ _) _ _ _); refine we_splitS (by walk_at "fam") ?_)
  | ((with_reducible show We _ _ (.Call (.Name "str" _) [_] _ _) _ _ _); refine b_str (by walk_at "fam") (Bx.str (by assumption)) ?_)
  | ((with_reducible show We _ _ (.Call (.Name "any" _) [_] _ _) _ _ _); refine b_any (by walk_at "fam") (by assumption) ?_)
  | ((with_reducible show We _ _ (.Call (.Attribute _ "extend" _) _ _ _) _ _ _); refine we_extend (by walk_at "fam") ?_)
  | ((with_reducible show We _ _ (.Call (.Attribute _ "pop" _) [_, _] _ _) _ _ _); refine we_dpop (by walk_at "fam") ?_)
  | ((with_reducible show We _ _ (.Call (.Name _ _) _ _ _) _ _ _); refine we_call (by walk_at "fam") (by assumption) (by decide) ?_)
  | ((with_reducible show We _ _ (.Call (.Name _ _) [] _ _) _ _ _); refine we_make0 (by walk_at "fam") (by assumption) (by decide) ?_)
  | ((with_reducible show We _ _ (.Call (.Name _ _) _ _ _) _ _ _); refine we_make (by walk_at "fam") (by assumption) (by decide) ?_)
  | ((with_reducible show We _ _ (.Call (.Attribute _ _ _) (_ :: _) _ _) _ _ _); refine we_meth (by walk_at "fam") (by assumption) (by decide) ?_)
  | ((with_reducible show We _ _ (.Call (.Attribute _ _ _) [] _ _) _ _ _); refine we_meth0 (by walk_at "fam") (by assumption) (by decide) ?_))
local macro_rules | `(tactic| walk_at "e") => `(tactic| first
  | ((with_reducible show We _ _ (.Name _ _) _ _ _); first | refine we_varA (by walk_at "fam") (by walk_at "at") (by rfl) ?_ | refine we_gint (by walk_at "fam") (by assumption) ?_ | refine we_gstr (by walk_at "fam") (by assumption) ?_ | refine we_gtup (by walk_at "fam") (by assumption) ?_)
  | ((with_reducible show We _ _ (.Constant _ _ _) _ _ _); first | refine we_int ?_ | refine we_bl ?_ | refine we_non ?_ | refine we_str ?_)
  | ((with_reducible show We _ _ (.BinOp _ _ _ _) _ _ _); refine we_bin ?_)
  | ((with_reducible show We _ _ (.Compare _ [_] _ _) _ _ _); refine we_cmp ?_)
  | ((with_reducible show We _ _ (.Compare _ [_, _] _ _) _ _ _); refine we_chain ?_)
  | ((with_reducible show We _ _ (.BoolOp _ [_] _) _ _ _); refine we_one ?_)
  | ((with_reducible show We _ _ (.BoolOp .And _ _) _ _ _); refine we_and ?_)
  | ((with_reducible show We _ _ (.BoolOp .Or _ _) _ _ _); refine we_or ?_)
  | ((with_reducible show We _ _ (.UnaryOp .Not _ _) _ _ _); refine we_not ?_)
  | ((with_reducible show We _ _ (.UnaryOp .USub _ _) _ _ _); refine we_negI ?_)
  | ((with_reducible show We _ _ (.Dict [] [] _) _ _ _); refine we_dnew ?_)
  | ((with_reducible show We _ _ (.IfExp _ _ _ _) _ _ _); refine we_ifExp ?_)
  | ((with_reducible show We _ _ (.Tuple _ _ _) _ _ _); refine we_tup ?_)
  | ((with_reducible show We _ _ (.List _ _) _ _ _); refine we_lst ?_)
  | ((with_reducible show We _ _ (.Subscript _ (.Slice _ _ _ _) _) _ _ _); refine we_sliceTup (by walk_at "fam") ?_)
  | ((with_reducible show We _ _ (.Subscript _ _ _) _ _ _); refine we_ix ?_)
  | ((with_reducible show We _ _ (.Attribute _ _ _) _ _ _); refine we_fld (by walk_at "fam") ?_)
  | walk_at "call"
  | ((with_reducible show Wo _ _ none _ _ _); refine wo_none ?_)
  | ((with_reducible show Wo _ _ (some _) _ _ _); refine wo_some ?_)
  | ((with_reducible show Wr _ _ [] _ _ _); refine wr_nil ?_)
  | ((with_reducible show Wr _ _ (_ :: _) _ _ _); refine wr_cons ?_)
  | ((with_reducible show Wt _ _ (.UnaryOp .Not _ _) _ _ _); refine wt_not ?_)
  | ((with_reducible show Wt _ _ (.BoolOp .And _ _) _ _ _); refine wt_w (ww_and ?_))
  | ((with_reducible show Wt _ _ (.BoolOp .Or _ _) _ _ _); refine wt_w (ww_or ?_))
  | ((with_reducible show Wt _ _ (.Compare _ [_] _ _) _ _ _); refine wt_cmp ?_)
  | ((with_reducible show Wt _ _ _ _ _ _); refine wt_val ?_)
  | ((with_reducible show Ww _ _ (.BoolOp .And [_] _) _ _ _); refine ww_and1 ?_)
  | ((with_reducible show Ww _ _ (.BoolOp .Or [_] _) _ _ _); refine ww_or1 ?_)
  | ((with_reducible show Ww _ _ (.BoolOp .And _ _) _ _ _); refine ww_and ?_)
  | ((with_reducible show Ww _ _ (.BoolOp .Or _ _) _ _ _); refine ww_or ?_)
  | ((with_reducible show Ws _ _ [] _ _ _); refine ws_nil ?_)
  | ((with_reducible show Ws _ _ (_ :: _) _ _ _); refine ws_cons ?_)
  | ((with_reducible show Ws1 _ _ (.Return (some _) _) _ _ _); refine ws_ret ?_)
  | ((with_reducible show Ws1 _ _ (.If _ _ _ _) _ _ _); refine ws_if ?_)
  | ((with_reducible show Ws1 _ _ (.Expr _ _) _ _ _); refine ws_expr ?_)
  | ((with_reducible show Ws1 _ _ (.Assign [.Name _ _] (.ListComp _ _ _ _) _) _ _ _); fail)
  | ((with_reducible show Ws1 _ _ (.Assign [.Name _ _] _ _) _ _ _); refine ws_setA (by walk_at "fam") (by walk_at "at") ?_)
  | ((with_reducible show Ws1 _ _ (.Assign [.Attribute _ _ _] _ _) _ _ _); refine ws_fld (by walk_at "fam") ?_)
  | ((with_reducible show Ws1 _ _ (.Assign [_] _ _) _ _ _); refine ws_asg ?_)
  | ((with_reducible show Wts _ _ [] _ _ _); refine wts_nil ?_)
  | ((with_reducible show Wts _ _ [_] _ _ _); refine wts_one ?_)
  | ((with_reducible show Wg _ _ _ (.Name _ _) _ _ _ _); refine wg_nameA (by walk_at "fam") (by walk_at "at") ?_)
  | ((with_reducible show Wg _ _ _ (.Tuple _ _ _) _ _ _ _); refine wg_tup (by walk_at "fam") ?_)
  | ((with_reducible show Wg _ _ _ (.Subscript _ _ _) _ _ _ _); refine wg_sub ?_)
  | refine wgs_nil ?_ | refine wgs_cons ?_)
local macro_rules | `(tactic| walk_at "w") => `(tactic| repeat walk_at "e")
abbrev stFt : Stmt := (inClass (topS 2) 0)
theorem scFt : FnScope ["self", "sender", "number"] ["self", "sender", "number"] (defScope stFt) := ⟨rfl, rfl, rfl, by decide +kernel, rfl, by decide +kernel, by decide +kernel⟩
abbrev stFr : Stmt := (inClass (topS 2) 1)
theorem scFr : FnScope ["self"] ["self"] (defScope stFr) := ⟨rfl, rfl, rfl, by decide +kernel, rfl, by decide +kernel, by decide +kernel⟩
abbrev stFc : Stmt := (inClass (topS 2) 2)
theorem scFc : FnScope ["self"] ["self"] (defScope stFc) := ⟨rfl, rfl, rfl, by decide +kernel, rfl, by decide +kernel, by decide +kernel⟩
abbrev stLt : Stmt := (inClass (topS 3) 0)
theorem scLt : FnScope ["self", "sender", "number"] ["self", "sender", "number"] (defScope stLt) := ⟨rfl, rfl, rfl, by decide +kernel, rfl, by decide +kernel, by decide +kernel⟩
abbrev stLr : Stmt := (inClass (topS 3) 1)
theorem scLr : FnScope ["self"] ["self"] (defScope stLr) := ⟨rfl, rfl, rfl, by decide +kernel, rfl, by decide +kernel, by decide +kernel⟩
abbrev stLc : Stmt := (inClass (topS 3) 2)
theorem scLc : FnScope ["self"] ["self"] (defScope stLc) := ⟨rfl, rfl, rfl, by decide +kernel, rfl, by decide +kernel, by decide +kernel⟩
abbrev stOi : Stmt := (inClass (topS 4) 0)
theorem scOi : FnScope ["self"] ["self"] (defScope stOi) := ⟨rfl, rfl, rfl, by decide +kernel, rfl, by decide +kernel, by decide +kernel⟩
abbrev stOt : Stmt := (inClass (topS 4) 1)
theorem scOt : FnScope ["self", "sender", "number"] ["self", "sender", "number"] (defScope stOt) := ⟨rfl, rfl, rfl, by decide +kernel, rfl, by decide +kernel, by decide +kernel⟩
abbrev stOr : Stmt := (inClass (topS 4) 2)
theorem scOr : FnScope ["self"] ["self"] (defScope stOr) := ⟨rfl, rfl, rfl, by decide +kernel, rfl, by decide +kernel, by decide +kernel⟩
abbrev stOc : Stmt := (inClass (topS 4) 3)
theorem scOc : FnScope ["self", "other", "pair"] ["self"] (defScope stOc) := ⟨rfl, rfl, rfl, by decide +kernel, rfl, by decide +kernel, by decide +kernel⟩
abbrev stTi : Stmt := (inClass (topS 5) 0)
theorem scTi : FnScope ["self"] ["self"] (defScope stTi) := ⟨rfl, rfl, rfl, by decide +kernel, rfl, by decide +kernel, by decide +kernel⟩
abbrev stTt : Stmt := (inClass (topS 5) 1)
theorem scTt : FnScope ["self", "sender", "number"] ["self", "sender", "number"] (defScope stTt) := ⟨rfl, rfl, rfl, by decide +kernel, rfl, by decide +kernel, by decide +kernel⟩
abbrev stTr : Stmt := (inClass (topS 5) 2)
theorem scTr : FnScope ["self", "sender"] ["self"] (defScope stTr) := ⟨rfl, rfl, rfl, by decide +kernel, rfl, by decide +kernel, by decide +kernel⟩
abbrev stTc : Stmt := (inClass (topS 5) 3)
theorem scTc : FnScope ["self", "other"] ["self"] (defScope stTc) := ⟨rfl, rfl, rfl, by decide +kernel, rfl, by decide +kernel, by decide +kernel⟩
abbrev stFo : Stmt := topS 6
theorem scFo : FnScope ["kind"] ["kind"] (defScope stFo) := ⟨rfl, rfl, rfl, by decide +kernel, rfl, by decide +kernel, by decide +kernel⟩
structure Kf (K : PySem.W.Frag) (CF CL CO CT : Addr) : Prop where
  clF : Cls K CF
  clL : Cls K CL
  clO : Cls K CO
  clT : Cls K CT
  pairs : NoAttr K CO "pairs"
  greatest : NoAttr K CT "greatest"
def pairsM (hs : List Ltr) : List (NestedKey × MV) := mapN kL (fun _ : Unit => MV.d (.bool true)) (hs.map fun p => (p, ()))
def greatT (hs : List Ltr) : List (Int × Int) := hs.foldl (fun a p => aput a p.1 p.2) []
def greatM (hs : List Ltr) : List (Key × MV) := mapK kI (fun v : Int => MV.d (.int v)) (greatT hs)
theorem pairs_has (hs : List Ltr) (p : Ltr) : (aget (hs.map fun p => (p, ())) p).isSome = decide (p ∈ hs) := by
  rw [Bool.eq_iff_iff, aget_isSome, decide_eq_true_eq, List.map_map]
  simp
theorem pairs_snoc {hs : List Ltr} {p : Ltr} (h : p ∉ hs) : aput (hs.map fun p => (p, ())) p () = (hs ++ [p]).map fun p => (p, ()) := by
  unfold aput
  rw [pairs_has, decide_eq_false h, if_neg Bool.false_ne_true, List.map_append]
  rfl
theorem great_snoc (hs : List Ltr) (p : Ltr) : greatT (hs ++ [p]) = aput (greatT hs) p.1 p.2 := by unfold greatT; rw [List.foldl_append]; rfl
theorem great_len (hs : List Ltr) : (greatT hs).length ≤ hs.length := by
  have key : ∀ (hs : List Ltr) (acc : List (Int × Int)), (hs.foldl (fun a p => aput a p.1 p.2) acc).length ≤ acc.length + hs.length := by
    intro hs
    induction hs with
    | nil => intro acc; simp
    | cons a hs ih =>
      intro acc
      rw [List.foldl_cons, List.length_cons]
      have := ih (aput acc a.1 a.2)
      have := aput_len acc a.1 a.2
      omega
  have := key hs []
  unfold greatT
  simpa using this
/-- each sieve hears by its kind -/
def hearR (kd : Str) (hs : List Ltr) (p : Ltr) : Str :=
  if kd = "once" then (if p ∈ hs then "again" else "heard") else if kd = "row" then (if p.2 ≤ (aget (greatT hs) p.1).getD (-1) then "late" else "heard") else "heard"
structure Ks (kd : Str) : Prop where
  is : kd = "plain" ∨ kd = "loose" ∨ kd = "once" ∨ kd = "row"
/-- a sieve in the store: its instance at i, its dict at j -/
def SvAt (w : World) (CF CL CO CT : Addr) (m : Mm) (kd : Str) (i j : Nat) (hs : List Ltr) : Prop :=
  (kd = "plain" ∧ m[i]? = some (.ins CF [])) ∨ (kd = "loose" ∧ m[i]? = some (.ins CL [])) ∨ (kd = "once" ∧ m[i]? = some (.ins CO [("pairs", .r j)]) ∧ m[j]? = some (.dn w (pairsM hs))) ∨ (kd = "row" ∧ m[i]? = some (.ins CT [("greatest", .r j)]) ∧ m[j]? = some (.dct (greatM hs)))
def sOi (CO : Addr) (w : World) (xs : List MV) (m : Mm) (Q : QV) : Prop := ∃ m0 : Mm, m = m0 ++ [.ins CO []] ∧ xs = [.r m0.length] ∧ Q (.d .none) (m0 ++ [.ins CO [("pairs", .r (m0.length + 1))], .dn w []])
def sTi (CT : Addr) (xs : List MV) (m : Mm) (Q : QV) : Prop := ∃ m0 : Mm, m = m0 ++ [.ins CT []] ∧ xs = [.r m0.length] ∧ Q (.d .none) (m0 ++ [.ins CT [("greatest", .r (m0.length + 1))], .dct []])
def sAtk (xs : List MV) (m : Mm) (Q : QV) : Prop := ∃ (i : Nat) (a b : PyData), xs = [.r i, .d a, .d b] ∧ Q (.d (.str "heard")) m
def sArw (xs : List MV) (m : Mm) (Q : QV) : Prop := ∃ i : Nat, xs = [.r i] ∧ Q (.d (.tuple [])) m
def sAcp (C : Addr) (xs : List MV) (m : Mm) (Q : QV) : Prop := ∃ i : Nat, xs = [.r i] ∧ Q (.r m.length) (m ++ [.ins C []])
def sOtk (w : World) (CO : Addr) (xs : List MV) (m : Mm) (Q : QV) : Prop := ∃ (i j : Nat) (p : Ltr) (hs : List Ltr), xs = [.r i, .d (.int p.1), .d (.int p.2)] ∧ m[i]? = some (.ins CO [("pairs", .r j)]) ∧ m[j]? = some (.dn w (pairsM hs)) ∧ hs.length ≤ 1000 ∧
  (p ∈ hs → Q (.d (.str "again")) m) ∧ (p ∉ hs → Q (.d (.str "heard")) (m.set j (.dn w (pairsM (hs ++ [p])))))
def sTtk (CT : Addr) (xs : List MV) (m : Mm) (Q : QV) : Prop := ∃ (i j : Nat) (p : Ltr) (hs : List Ltr), xs = [.r i, .d (.int p.1), .d (.int p.2)] ∧ m[i]? = some (.ins CT [("greatest", .r j)]) ∧ m[j]? = some (.dct (greatM hs)) ∧ hs.length ≤ 1000 ∧ 0 ≤ p.2 ∧
  (if p.2 ≤ (aget (greatT hs) p.1).getD (-1) then Q (.d (.str "late")) m else Q (.d (.str "heard")) (m.set j (.dct (greatM (hs ++ [p])))))
def pairD (p : Ltr) : PyData := ltrD p
def pN (p : Ltr) : List Int := [p.1, p.2]
def inB (hs : List Ltr) : Prop := ∀ p ∈ hs, 0 ≤ p.1 ∧ p.1 < 1000000 ∧ 0 ≤ p.2 ∧ p.2 < 1000000
def sOrw (w : World) (CO : Addr) (xs : List MV) (m : Mm) (Q : QV) : Prop := ∃ (i j : Nat) (hs : List Ltr), xs = [.r i] ∧ m[i]? = some (.ins CO [("pairs", .r j)]) ∧ m[j]? = some (.dn w (pairsM hs)) ∧ hs.length < 64 ∧ inB hs ∧
  ∀ us : List (List Int), us.Perm (hs.map pN) → us.Pairwise (fun s t => TS.code 1000000 s ≤ TS.code 1000000 t) → Q (.d (.tuple (us.map fun ns => .tuple (ns.map .int)))) m
def sTrw (CT : Addr) (xs : List MV) (m : Mm) (Q : QV) : Prop := ∃ (i j : Nat) (hs : List Ltr), xs = [.r i] ∧ m[i]? = some (.ins CT [("greatest", .r j)]) ∧ m[j]? = some (.dct (greatM hs)) ∧ hs.length < 64 ∧
  Q (.d (.tuple ((srtI ((greatT hs).map (·.1))).map fun s => ltrD (s, (aget (greatT hs) s).getD 0)))) m
def sOcp (w : World) (CO : Addr) (xs : List MV) (m : Mm) (Q : QV) : Prop := ∃ (i j : Nat) (hs : List Ltr), xs = [.r i] ∧ m[i]? = some (.ins CO [("pairs", .r j)]) ∧ m[j]? = some (.dn w (pairsM hs)) ∧ hs.length ≤ 1000 ∧ hs.Nodup ∧ Q (.r m.length) (m ++ [.ins CO [("pairs", .r (m.length + 2))], .dn w [], .dn w (pairsM hs)])
def sTcp (CT : Addr) (xs : List MV) (m : Mm) (Q : QV) : Prop := ∃ (i j : Nat) (hs : List Ltr), xs = [.r i] ∧ m[i]? = some (.ins CT [("greatest", .r j)]) ∧ m[j]? = some (.dct (greatM hs)) ∧ Q (.r m.length) (m ++ [.ins CT [("greatest", .r (m.length + 2))], .dct [], .dct (greatM hs)])
def sFo (w : World) (CL CO CT : Addr) (xs : List MV) (m : Mm) (Q : QV) : Prop := (xs = [.d (.str "loose")] ∧ Q (.r m.length) (m ++ [.ins CL []])) ∨ (xs = [.d (.str "once")] ∧ Q (.r m.length) (m ++ [.ins CO [("pairs", .r (m.length + 1))], .dn w []])) ∨ (xs = [.d (.str "row")] ∧ Q (.r m.length) (m ++ [.ins CT [("greatest", .r (m.length + 1))], .dct []]))
theorem eqv_ss (a b : Str) : PyData.eqv (.str a) (.str b) = decide (a = b) := by unfold PyData.eqv; by_cases h : a = b <;> simp [h]
section
variable {P : Program} {w : World} {K : PySem.W.Frag} {mg : Str → Option Value} {base : Heap} {f : Addr} {fd : FuncData} {CF CL CO CT : Addr}
theorem ok_Ft (F : Fun K "takes" "Filter.takes" stFt f fd) : FnOk P w K mg base CX0 1 f fd ["self", "sender", "number"] (spM K sAtk) := by
  refine fn_m F scFt (fun xs m Q h => by obtain ⟨_, _, _, rfl, _⟩ := h; rfl) fun X Fm xs m Q ⟨i, a, b, ex, q⟩ hs => ?_
  subst ex
  refine ws_cons ?_
  walk_at "w"
  exact .inl q
theorem ok_Lt (F : Fun K "takes" "Loose.takes" stLt f fd) : FnOk P w K mg base CX0 1 f fd ["self", "sender", "number"] (spM K sAtk) := by
  refine fn_m F scLt (fun xs m Q h => by obtain ⟨_, _, _, rfl, _⟩ := h; rfl) fun X Fm xs m Q ⟨i, a, b, ex, q⟩ hs => ?_
  subst ex
  refine ws_cons ?_
  walk_at "w"
  exact .inl q
theorem ok_Fr (F : Fun K "rows" "Filter.rows" stFr f fd) : FnOk P w K mg base CX0 1 f fd ["self"] (spM K sArw) := by
  refine fn_m F scFr (fun xs m Q h => by obtain ⟨_, rfl, _⟩ := h; rfl) fun X Fm xs m Q ⟨i, ex, q⟩ hs => ?_
  subst ex
  refine ws_cons ?_
  walk_at "w"
  exact ⟨[], rfl, Nat.zero_le _, .inl q⟩
theorem ok_Lr (F : Fun K "rows" "Loose.rows" stLr f fd) : FnOk P w K mg base CX0 1 f fd ["self"] (spM K sArw) := by
  refine fn_m F scLr (fun xs m Q h => by obtain ⟨_, rfl, _⟩ := h; rfl) fun X Fm xs m Q ⟨i, ex, q⟩ hs => ?_
  subst ex
  refine ws_cons ?_
  walk_at "w"
  exact ⟨[], rfl, Nat.zero_le _, .inl q⟩
theorem ok_Fc (F : Fun K "copy" "Filter.copy" stFc f fd) (M : Mb K CF) (a : mg "Filter" = some (.ref CF)) : FnOk P w K mg base CX0 2 f fd ["self"] (spM K (sAcp CF)) := by
  refine fn_m F scFc (fun xs m Q h => by obtain ⟨_, rfl, _⟩ := h; rfl) fun X Fm xs m Q ⟨i, ex, q⟩ hs => ?_
  subst ex
  exact ws_cons (ws_ret (we_bare Fm M a (.inl q)))
theorem ok_Lc (F : Fun K "copy" "Loose.copy" stLc f fd) (M : Mb K CL) (a : mg "Loose" = some (.ref CL)) : FnOk P w K mg base CX0 2 f fd ["self"] (spM K (sAcp CL)) := by
  refine fn_m F scLc (fun xs m Q h => by obtain ⟨_, rfl, _⟩ := h; rfl) fun X Fm xs m Q ⟨i, ex, q⟩ hs => ?_
  subst ex
  exact ws_cons (ws_ret (we_bare Fm M a (.inl q)))
theorem ok_Oi (F : Fun K "__init__" "Once.__init__" stOi f fd) (T : Kf K CF CL CO CT) : FnOk P w K mg base CX0 1 f fd ["self"] (spM K (sOi CO w)) := by
  refine fn_m F scOi (fun xs m Q h => by obtain ⟨_, _, rfl, _⟩ := h; rfl) fun X Fm xs m Q ⟨m0, em, ex, q⟩ hs => ?_
  subst ex em
  refine ws_cons (ws_fld Fm (we_dnewN Fm ?_))
  walk_at "w"
  rw [List.append_assoc]
  refine ⟨_, CO, _, rfl, nget m0 _ 0, T.clO, T.pairs, by show 0 < 1000; decide, ?_⟩
  have e := nset m0 ([MO.ins CO []] ++ [MO.dn w []]) 0 (.ins CO (putM "pairs" (.r (m0 ++ [MO.ins CO []]).length) []))
  rw [Nat.add_zero] at e
  rw [e]
  refine ws_nil (.inl ?_)
  simp only [List.length_append, List.length_singleton]
  exact q
theorem ok_Ti (F : Fun K "__init__" "Turn.__init__" stTi f fd) (T : Kf K CF CL CO CT) : FnOk P w K mg base CX0 1 f fd ["self"] (spM K (sTi CT)) := by
  refine fn_m F scTi (fun xs m Q h => by obtain ⟨_, _, rfl, _⟩ := h; rfl) fun X Fm xs m Q ⟨m0, em, ex, q⟩ hs => ?_
  subst ex em
  refine ws_cons (ws_fld Fm (we_dnew ?_))
  walk_at "w"
  rw [List.append_assoc]
  refine ⟨_, CT, _, rfl, nget m0 _ 0, T.clT, T.greatest, by show 0 < 1000; decide, ?_⟩
  have e := nset m0 ([MO.ins CT []] ++ [MO.dct []]) 0 (.ins CT (putM "greatest" (.r (m0 ++ [MO.ins CT []]).length) []))
  rw [Nat.add_zero] at e
  rw [e]
  refine ws_nil (.inl ?_)
  simp only [List.length_append, List.length_singleton]
  exact q
theorem ok_Ot (F : Fun K "takes" "Once.takes" stOt f fd) (T : Kf K CF CL CO CT) : FnOk P w K mg base CX0 1 f fd ["self", "sender", "number"] (spM K (sOtk w CO)) := by
  refine fn_m F scOt (fun xs m Q h => by obtain ⟨_, _, _, _, rfl, _⟩ := h; rfl) fun X Fm xs m Q ⟨i, j, ⟨s, n⟩, hs', ex, hi, hj, hl, q1, q2⟩ hs => ?_
  subst ex
  refine ws_cons ?_
  walk_at "w"
  refine ⟨[.int s, .int n], rfl, Nat.le_of_ble_eq_true rfl, ?_⟩
  walk_at "w"
  refine ⟨i, CO, _, _, rfl, hi, T.clO, T.pairs, rfl, ?_⟩
  have ek : NestedKey.tup [.num s, .num n] = kL (s, n) := rfl
  refine o_inN Fm (ks := [.num s, .num n]) (.inl hj) (by rw [ek, kL_data]) (kL_deep (s, n)) ⟨_, rfl, ?_⟩
  rw [ek, show pairsM hs' = mapN kL (fun _ : Unit => MV.d (.bool true)) (hs'.map fun p => (p, ())) from rfl, mapN_val kL_inj, Option.isSome_map, pairs_has]
  by_cases hp : (s, n) ∈ hs'
  · rw [decide_eq_true hp]
    refine L2.iteT ?_
    walk_at "w"
    exact .inl (q1 hp)
  · rw [decide_eq_false hp]
    refine L2.iteF ?_
    walk_at "w"
    refine ⟨i, CO, _, _, rfl, hi, T.clO, T.pairs, rfl, ?_⟩
    walk_at "w"
    refine ⟨[.int s, .int n], rfl, Nat.le_of_ble_eq_true rfl, ?_⟩
    refine setw_dn Fm (ks := [.num s, .num n]) hj (by rw [ek, kL_data]) (kL_deep (s, n)) (by unfold pairsM; rw [mapN_len, List.length_map]; omega) ?_
    rw [ek, show pairsM hs' = mapN kL (fun _ : Unit => MV.d (.bool true)) (hs'.map fun p => (p, ())) from rfl, mapN_put kL_inj (f := fun _ : Unit => MV.d (.bool true)) _ (s, n) (), pairs_snoc hp]
    walk_at "w"
    exact .inl (q2 hp)
theorem ok_Tt (F : Fun K "takes" "Turn.takes" stTt f fd) (T : Kf K CF CL CO CT) : FnOk P w K mg base CX0 1 f fd ["self", "sender", "number"] (spM K (sTtk CT)) := by
  refine fn_m F scTt (fun xs m Q h => by obtain ⟨_, _, _, _, rfl, _⟩ := h; rfl) fun X Fm xs m Q ⟨i, j, ⟨s, n⟩, hs', ex, hi, hj, hl, n0, q⟩ hs => ?_
  subst ex
  have n0 : 0 ≤ n := n0
  have q : (if n ≤ (aget (greatT hs') s).getD (-1) then Q (.d (.str "late")) m else Q (.d (.str "heard")) (m.set j (.dct (greatM (hs' ++ [(s, n)]))))) := q
  have ge : greatM hs' = mapK kI (fun v : Int => MV.d (.int v)) (greatT hs') := rfl
  have lg : (greatM hs').length < 100000 := by rw [ge, mapK_len]; have := great_len hs'; omega
  refine ws_cons ?_
  walk_at "w"
  refine ⟨i, CT, _, _, rfl, hi, T.clT, T.greatest, rfl, ?_⟩
  refine o_inD Fm (kk := kI s) hj ⟨_, rfl, ?_⟩
  rw [ge, mapK_val kI_inj, Option.isSome_map]
  have fin : ∀ Qn : Prop, Qn → Qn := fun _ h => h
  cases hg : aget (greatT hs') s with
  | none =>
    rw [hg] at q
    have q : (if n ≤ (-1 : Int) then Q (.d (.str "late")) m else Q (.d (.str "heard")) (m.set j (.dct (greatM (hs' ++ [(s, n)]))))) := q
    rw [if_neg (show ¬ n ≤ -1 by omega)] at q
    refine L2.iteF (L2.iteF ?_)
    walk_at "w"
    refine ⟨i, CT, _, _, rfl, hi, T.clT, T.greatest, rfl, ?_⟩
    walk_at "w"
    refine setw_dct Fm (kk := kI s) hj lg ?_
    rw [ge, mapK_put kI_inj (f := fun v : Int => MV.d (.int v)), ← great_snoc hs' (s, n)]
    walk_at "w"
    exact .inl q
  | some g =>
    rw [hg] at q
    have q : (if n ≤ g then Q (.d (.str "late")) m else Q (.d (.str "heard")) (m.set j (.dct (greatM (hs' ++ [(s, n)]))))) := q
    refine L2.iteT ?_
    walk_at "w"
    refine ⟨i, CT, _, _, rfl, hi, T.clT, T.greatest, rfl, ?_⟩
    walk_at "w"
    refine ix_dct Fm (kk := kI s) (y := .d (.int g)) hj (by rw [ge, mapK_val kI_inj, hg]; rfl) ?_
    walk_at "w"
    refine o_ge ⟨_, rfl, ?_⟩
    by_cases hn : n ≤ g
    · rw [if_pos hn] at q
      rw [decide_eq_true hn]
      refine L2.iteT ?_
      walk_at "w"
      exact .inl q
    · rw [if_neg hn] at q
      rw [decide_eq_false hn]
      refine L2.iteF ?_
      walk_at "w"
      refine ⟨i, CT, _, _, rfl, hi, T.clT, T.greatest, rfl, ?_⟩
      walk_at "w"
      refine setw_dct Fm (kk := kI s) hj lg ?_
      rw [ge, mapK_put kI_inj (f := fun v : Int => MV.d (.int v)), ← great_snoc hs' (s, n)]
      walk_at "w"
      exact .inl q
theorem ok_Or (F : Fun K "rows" "Once.rows" stOr f fd) (B : Bt mg) (T : Kf K CF CL CO CT) : FnOk P w K mg base CX0 1 f fd ["self"] (spM K (sOrw w CO)) := by
  refine fn_m F scOr (fun xs m Q h => by obtain ⟨_, _, _, rfl, _⟩ := h; rfl) fun X Fm xs m Q ⟨i, j, hs', ex, hi, hj, hl, ib, q⟩ hs => ?_
  subst ex
  refine ws_cons (ws_ret (b_tup Fm B (b_sortedN Fm B (d := 2) (Bn := 1000000) ?_)))
  walk_at "w"
  refine ⟨i, CO, _, _, rfl, hi, T.clO, T.pairs, rfl, ?_⟩
  refine ⟨j, _, hs'.map pN, rfl, .inl hj, ?_, by rw [List.length_map]; exact hl, by decide, fun t ht => ?_, fun us pm pw => .inl ⟨us.map fun ns => .tuple (ns.map .int), by unfold tsM; rw [List.map_map]; rfl, _, rfl, .inl (q us pm pw)⟩⟩
  · unfold pairsM mapN
    rw [List.map_map, List.map_map, List.map_map]
    rfl
  · obtain ⟨p, hp, rfl⟩ := List.mem_map.mp ht
    obtain ⟨b1, b2, b3, b4⟩ := ib p hp
    refine ⟨rfl, fun x hx => ?_⟩
    unfold pN at hx
    simp at hx
    rcases hx with rfl | rfl
    · exact ⟨b1, b2⟩
    · exact ⟨b3, b4⟩
theorem ok_Tr (F : Fun K "rows" "Turn.rows" stTr f fd) (B : Bt mg) (T : Kf K CF CL CO CT) : FnOk P w K mg base CX0 1 f fd ["self"] (spM K (sTrw CT)) := by
  refine fn_m F scTr (fun xs m Q h => by obtain ⟨_, _, _, rfl, _⟩ := h; rfl) fun X Fm xs m Q ⟨i, j, hs', ex, hi, hj, hl, q⟩ hs => ?_
  subst ex
  have ge : greatM hs' = mapK kI (fun v : Int => MV.d (.int v)) (greatT hs') := rfl
  obtain ⟨ks, eks⟩ : ∃ ks : List Int, (greatT hs').map (·.1) = ks := ⟨_, rfl⟩
  rw [eks] at q
  refine ws_cons (ws_ret (b_tup Fm B (we_lc Fm [("sender", 1)] (wi_l Fm (b_srtD Fm B ?_)))))
  walk_at "w"
  refine ⟨i, CT, _, _, rfl, hi, T.clT, T.greatest, rfl, j, _, ks, rfl, hj, by rw [← eks, ge]; unfold mapK; rw [List.map_map, List.map_map]; rfl, .inl ⟨(srtI ks).map .int, by rw [List.map_map]; rfl, _, rfl, rfl, ?_⟩⟩
  have lk : (srtI ks).length ≤ 64 := by rw [(srtI_perm ks).length_eq, ← eks, List.length_map]; have := great_len hs'; omega
  refine ⟨by rw [List.length_map, List.length_map]; omega, fun n acc m' => m' = m ∧ acc = ((srtI ks).take n).map fun s => MV.d (ltrD (s, (aget (greatT hs') s).getD 0)), ⟨rfl, rfl⟩, fun _ _ _ _ _ => rfl, ?_, ?_⟩
  · rintro n x acc m' hx ⟨rfl, rfl⟩
    rw [List.map_map] at hx
    obtain ⟨s, hs1, rfl⟩ := map_get hx
    show Wg _ _ _ _ (.d (.int s)) _ _ _
    have hin : s ∈ (greatT hs').map (·.1) := by rw [eks]; exact (srtI_perm ks).mem_iff.mp (List.mem_of_getElem? hs1)
    obtain ⟨g, hg⟩ := Option.isSome_iff_exists.mp (aget_isSome.mpr hin)
    walk_at "w"
    refine L2.iteT ?_
    walk_at "w"
    refine ⟨i, CT, _, _, rfl, hi, T.clT, T.greatest, rfl, ?_⟩
    walk_at "w"
    refine ix_dct (Fam.blk Fm _) (kk := kI s) (y := .d (.int g)) hj (by rw [ge, mapK_val kI_inj, hg]; rfl) ?_
    walk_at "w"
    refine ⟨[.int s, .int g], rfl, Nat.le_of_ble_eq_true rfl, rfl, ?_⟩
    rw [List.take_add_one, hs1, List.map_append]
    show _ = _ ++ [MV.d (ltrD (s, (aget (greatT hs') s).getD 0))]
    rw [hg]
    rfl
  · rintro acc m' ⟨rfl, rfl⟩
    rw [List.length_map, List.length_map, List.take_length]
    exact .inl ⟨(srtI ks).map fun s => ltrD (s, (aget (greatT hs') s).getD 0), by rw [List.map_map]; rfl, _, rfl, .inl q⟩
theorem ok_Oc (F : Fun K "copy" "Once.copy" stOc f fd) (T : Kf K CF CL CO CT) (C1 : Cak P w K mg base 1 CO "Once" (sOi CO w)) : FnOk P w K mg base CX0 3 f fd ["self"] (spM K (sOcp w CO)) := by
  refine fn_m F scOc (fun xs m Q h => by obtain ⟨_, _, _, rfl, _⟩ := h; rfl) fun X Fm xs m Q ⟨i, j, hs', ex, hi, hj, hl, hnd, q⟩ hs => ?_
  subst ex
  refine ws_cons ?_
  walk_at "w"
  refine ⟨m, rfl, rfl, rfl, ?_⟩
  refine ws_cons (ws_fld Fm (we_lock (i := j) (app_get hj) trivial fun o u => ?_))
  have ll : (m ++ [MO.ins CO [("pairs", .r (m.length + 1))], .dn w []]).length = m.length + 2 := by simp
  have li : i < m.length := (List.getElem?_eq_some_iff.mp hi).1
  have lj : j < m.length := (List.getElem?_eq_some_iff.mp hj).1
  have ij : i ≠ j := fun z => by subst z; rw [hi] at hj; cases hj
  have f1 : ((m ++ [MO.ins CO [("pairs", .r (m.length + 1))], .dn w []]).set j (.fz o u (.dn w (pairsM hs'))))[j]? = some (.fz o u (.dn w (pairsM hs'))) := List.getElem?_set_self (by rw [ll]; omega)
  have f0 : ((m ++ [MO.ins CO [("pairs", .r (m.length + 1))], .dn w []]).set j (.fz o u (.dn w (pairsM hs'))))[i]? = some (.ins CO [("pairs", .r j)]) := by rw [List.getElem?_set_ne (fun z => ij z.symm)]; exact app_get hi
  have back : ∀ x : MO, ((m ++ [MO.ins CO [("pairs", .r (m.length + 1))], .dn w []]).set j (.fz o u (.dn w (pairsM hs'))) ++ [x]).set j (.dn w (pairsM hs')) = m ++ [.ins CO [("pairs", .r (m.length + 1))], .dn w [], x] := fun x => by
    have e : m.set j (.dn w (pairsM hs')) = m := by
      apply List.ext_getElem?
      intro k
      rw [List.getElem?_set]
      split
      · rename_i e; subst e; exact hj.symm
      · rfl
    rw [List.set_append_left _ _ lj, List.append_assoc, List.set_append_left _ _ (by rw [List.length_set]; exact lj), List.set_set, e]
    rfl
  have lm1 : ((m ++ [MO.ins CO [("pairs", .r (m.length + 1))], .dn w []]).set j (.fz o u (.dn w (pairsM hs')))).length = m.length + 2 := by rw [List.length_set]; exact ll
  generalize (m ++ [MO.ins CO [("pairs", .r (m.length + 1))], .dn w []]).set j (.fz o u (.dn w (pairsM hs'))) = m1 at f0 f1 back lm1 ⊢
  have pk : (pairsM hs').map (fun p => MV.d p.1.data) = hs'.map fun p => MV.d (ltrD p) := by
    unfold pairsM mapN
    rw [List.map_map, List.map_map]
    exact List.map_congr_left fun p _ => congrArg MV.d (kL_data p)
  refine we_dcN Fm [("pair", 2)] (wi_keysN Fm ?_)
  walk_at "w"
  refine ⟨i, CO, _, _, rfl, f0, T.clO, T.pairs, rfl, j, o, u, _, rfl, f1, ?_⟩
  rw [pk]
  refine ⟨by rw [List.length_map]; omega, fun n acc m' => m' = m1 ∧ acc = pairsM (hs'.take n), ⟨rfl, rfl⟩, fun _ _ _ _ h => by rw [h.1]; exact f1, ?_, ?_⟩
  · rintro n x acc m' hx ⟨rfl, rfl⟩
    obtain ⟨p, hp, rfl⟩ := map_get hx
    have ln : n < hs'.length := (List.getElem?_eq_some_iff.mp hp).1
    walk_at "w"
    refine L2.iteT ?_
    walk_at "w"
    refine ⟨[.num p.1, .num p.2], by rw [show NestedKey.tup [.num p.1, .num p.2] = kL p from rfl, kL_data], kL_deep p, rfl, ?_⟩
    have np : p ∉ hs'.take n := fun z => by
      obtain ⟨k, hk, e⟩ := List.mem_iff_getElem.mp z
      rw [List.getElem_take] at e
      have hk' : k < n := by rw [List.length_take] at hk; omega
      have e2 := (List.getElem?_eq_some_iff.mp hp).2
      have := (List.getElem_inj (xs := hs') (i := k) (j := n) (h₀ := by omega) (h₁ := ln) hnd).mp (by rw [e, e2])
      omega
    rw [show NestedKey.tup [.num p.1, .num p.2] = kL p from rfl, show pairsM (hs'.take n) = mapN kL (fun _ : Unit => MV.d (.bool true)) ((hs'.take n).map fun p => (p, ())) from rfl, mapN_put kL_inj (f := fun _ : Unit => MV.d (.bool true)) _ p (), pairs_snoc np, List.take_add_one, hp]
    rfl
  · rintro acc m' ⟨rfl, rfl⟩
    rw [List.length_map, List.take_length]
    refine ⟨app_get f1, ?_⟩
    rw [back, lm1]
    walk_at "w"
    refine ⟨_, CO, _, rfl, nget m _ 0, T.clO, T.pairs, Nat.le_of_ble_eq_true rfl, ?_⟩
    have e : (m ++ [MO.ins CO [("pairs", .r (m.length + 1))], .dn w [], .dn w (pairsM hs')]).set m.length (.ins CO [("pairs", .r (m.length + 2))]) = m ++ [.ins CO [("pairs", .r (m.length + 2))], .dn w [], .dn w (pairsM hs')] := nset m _ 0 _
    show Ws _ _ _ _ ((m ++ [MO.ins CO [("pairs", .r (m.length + 1))], .dn w [], .dn w (pairsM hs')]).set m.length (.ins CO [("pairs", .r (m.length + 2))])) _
    rw [e]
    refine ws_cons ?_
    walk_at "w"
    exact .inl q
theorem ok_Tc (F : Fun K "copy" "Turn.copy" stTc f fd) (B2 : Bx mg) (T : Kf K CF CL CO CT) (C1 : Cak P w K mg base 1 CT "Turn" (sTi CT)) : FnOk P w K mg base CX0 3 f fd ["self"] (spM K (sTcp CT)) := by
  refine fn_m F scTc (fun xs m Q h => by obtain ⟨_, _, _, rfl, _⟩ := h; rfl) fun X Fm xs m Q ⟨i, j, hs', ex, hi, hj, q⟩ hs => ?_
  subst ex
  refine ws_cons ?_
  walk_at "w"
  refine ⟨m, rfl, rfl, rfl, ?_⟩
  refine ws_cons (ws_fld Fm (b_dict Fm B2.dict ?_))
  walk_at "w"
  refine ⟨i, CT, _, _, rfl, app_get hi, T.clT, T.greatest, rfl, j, _, rfl, app_get hj, ?_⟩
  walk_at "w"
  rw [List.append_assoc]
  refine ⟨_, CT, _, rfl, nget m _ 0, T.clT, T.greatest, Nat.le_of_ble_eq_true rfl, ?_⟩
  have ll : (m ++ [MO.ins CT [("greatest", .r (m.length + 1))], .dct []]).length = m.length + 2 := by simp
  rw [ll]
  have e : (m ++ [MO.ins CT [("greatest", .r (m.length + 1))], .dct [], .dct (greatM hs')]).set m.length (.ins CT [("greatest", .r (m.length + 2))]) = m ++ [.ins CT [("greatest", .r (m.length + 2))], .dct [], .dct (greatM hs')] := nset m _ 0 _
  show Ws _ _ _ _ ((m ++ [MO.ins CT [("greatest", .r (m.length + 1))], .dct [], .dct (greatM hs')]).set m.length (.ins CT [("greatest", .r (m.length + 2))])) _
  rw [e]
  refine ws_cons ?_
  walk_at "w"
  exact .inl q
theorem ok_Fo (F : Fun K "filter_of" "filter_of" stFo f fd) (ML : Mb K CL) (aL : mg "Loose" = some (.ref CL)) (C1 : Cak P w K mg base 1 CO "Once" (sOi CO w)) (C2 : Cak P w K mg base 1 CT "Turn" (sTi CT)) : FnOk P w K mg base CX0 3 f fd ["kind"] (spM K (sFo w CL CO CT)) := by
  refine fn_m F scFo (fun xs m Q h => by rcases h with ⟨rfl, _⟩ | ⟨rfl, _⟩ | ⟨rfl, _⟩ <;> rfl) fun X Fm xs m Q h hs => ?_
  rcases h with ⟨rfl, q⟩ | ⟨rfl, q⟩ | ⟨rfl, q⟩
  · refine ws_cons ?_
    walk_at "w"
    refine o_eq Fm rfl rfl rfl rfl (by simp [PyData.depth]) ⟨_, rfl, ?_⟩
    rw [eqv_ss, decide_eq_false (by decide)]
    refine L2.iteF ?_
    walk_at "w"
    refine o_eq Fm rfl rfl rfl rfl (by simp [PyData.depth]) ⟨_, rfl, ?_⟩
    rw [eqv_ss, decide_eq_false (by decide)]
    refine L2.iteF ?_
    refine ws_nil (ws_cons (ws_ret (we_bare Fm ML aL ?_)))
    exact .inl q
  · refine ws_cons ?_
    walk_at "w"
    refine o_eq Fm rfl rfl rfl rfl (by simp [PyData.depth]) ⟨_, rfl, ?_⟩
    rw [eqv_ss, decide_eq_true (by decide)]
    refine L2.iteT ?_
    refine ws_cons (ws_ret (we_make0 Fm C1 (by decide) ⟨m, rfl, rfl, rfl, ?_⟩))
    exact .inl q
  · refine ws_cons ?_
    walk_at "w"
    refine o_eq Fm rfl rfl rfl rfl (by simp [PyData.depth]) ⟨_, rfl, ?_⟩
    rw [eqv_ss, decide_eq_false (by decide)]
    refine L2.iteF ?_
    walk_at "w"
    refine o_eq Fm rfl rfl rfl rfl (by simp [PyData.depth]) ⟨_, rfl, ?_⟩
    rw [eqv_ss, decide_eq_true (by decide)]
    refine L2.iteT ?_
    refine ws_cons (ws_ret (we_make0 Fm C2 (by decide) ⟨m, rfl, rfl, rfl, ?_⟩))
    exact .inl q
end

end Wn
set_option Elab.async false
set_option linter.all false
set_option maxRecDepth 100000
set_option maxHeartbeats 2000000
set_option autoImplicit false
set_option pp.maxSteps 600
namespace Wn
open PySem L2
local macro_rules | `(tactic| walk_at "fam") => `(tactic| first | assumption | exact Fam.blk (by assumption) _ | exact Fam.blk (Fam.blk (by assumption) _) _)
local macro_rules | `(tactic| walk_at "at") => `(tactic| with_reducible first | exact At.z | exact At.s At.z | exact At.s (At.s At.z) | exact At.s (At.s (At.s At.z)) | exact At.s (At.s (At.s (At.s At.z))) | exact At.s (At.s (At.s (At.s (At.s At.z)))) | exact At.s (At.s (At.s (At.s (At.s (At.s At.z))))) | exact At.s (At.s (At.s (At.s (At.s (At.s (At.s At.z)))))) | exact At.s (At.s (At.s (At.s (At.s (At.s (At.s (At.s At.z))))))) | exact At.s (At.s (At.s (At.s (At.s (At.s (At.s (At.s (At.s At.z)))))))) | exact At.s (At.s (At.s (At.s (At.s (At.s (At.s (At.s (At.s (At.s At.z))))))))) | exact At.s (At.s (At.s (At.s (At.s (At.s (At.s (At.s (At.s (At.s (At.s At.z)))))))))) | exact At.s (At.s (At.s (At.s (At.s (At.s (At.s (At.s (At.s (At.s (At.s (At.s At.z))))))))))) | exact At.s (At.s (At.s (At.s (At.s (At.s (At.s (At.s (At.s (At.s (At.s (At.s (At.s At.z)))))))))))) | exact At.s (At.s (At.s (At.s (At.s (At.s (At.s (At.s (At.s (At.s (At.s (At.s (At.s (At.s At.z))))))))))))) | exact At.s (At.s (At.s (At.s (At.s (At.s (At.s (At.s (At.s (At.s (At.s (At.s (At.s (At.s (At.s At.z)))))))))))))) | exact At.s (At.s (At.s (At.s (At.s (At.s (At.s (At.s (At.s (At.s (At.s (At.s (At.s (At.s (At.s (At.s At.z))))))))))))))) | exact At.s (At.s (At.s (At.s (At.s (At.s (At.s (At.s (At.s (At.s (At.s (At.s (At.s (At.s (At.s (At.s (At.s At.z)))))))))))))))) | exact At.s (At.s (At.s (At.s (At.s (At.s (At.s (At.s (At.s (At.s (At.s (At.s (At.s (At.s (At.s (At.s (At.s (At.s At.z))))))))))))))))) | exact At.s (At.s (At.s (At.s (At.s (At.s (At.s (At.s (At.s (At.s (At.s (At.s (At.s (At.s (At.s (At.s (At.s (At.s (At.s At.z)))))))))))))))))) | exact At.s (At.s (At.s (At.s (At.s (At.s (At.s (At.s (At.s (At.s (At.s (At.s (At.s (At.s (At.s (At.s (At.s (At.s (At.s (At.s At.z))))))))))))))))))) | exact At.s (At.s (At.s (At.s (At.s (At.s (At.s (At.s (At.s (At.s (At.s (At.s (At.s (At.s (At.s (At.s (At.s (At.s (At.s (At.s (At.s At.z)))))))))))))))))))))
local macro_rules | `(tactic| walk_at "call") => `(tactic| first
  | ((with_reducible show We _ _ (.Call (.Name "len" _) _ _ _) _ _ _); refine b_lenU (by walk_at "fam") (by assumption) ?_)
  | ((with_reducible show We _ _ (.Call (.Name "isinstance" _) [_, .Name "int" _] _ _) _ _ _); refine b_isiInt (by walk_at "fam") (by assumption) ?_)
  | ((with_reducible show We _ _ (.Call (.Name "isinstance" _) [_, .Name "bool" _] _ _) _ _ _); refine b_isiBool (by walk_at "fam") (by assumption) ?_)
  | ((with_reducible show We _ _ (.Call (.Name "isinstance" _) [_, .Name "tuple" _] _ _) _ _ _); refine b_isiTup (by walk_at "fam") (by assumption) ?_)
  | ((with_reducible show We _ _ (.Call (.Name "isinstance" _) [_, .Name "str" _] _ _) _ _ _); refine b_isi (T := "str") (n := "str") (by walk_at "fam") (by assumption) (Bx.str (by assumption)) bo_str ?_)
  | ((with_reducible show We _ _ (.Call (.Name "max" _) [_, _] _ _) _ _ _); refine b_max2 (by walk_at "fam") (Bx.max (by assumption)) ?_)
  | ((with_reducible show We _ _ (.Call (.Name "dict" _) _ _ _) _ _ _); refine b_dict (by walk_at "fam") (Bx.dict (by assumption)) ?_)
  | ((with_reducible show We _ _ (.Call (.Name "all" _) _ _ _) _ _ _); refine b_all (by walk_at "fam") (Bx.all (by assumption)) ?_)
  | ((with_reducible show We _ _ (.Call (.Name "abs" _) _ _ _) _ _ _); refine b_abs (by walk_at "fam") (by assumption) ?_)
  | ((with_reducible show We _ _ (.Call (.Name "int" _) _ _ _) _ _ _); refine b_intB (by walk_at "fam") (by assumption) ?_)
  | ((with_reducible show We _ _ (.Call (.Name "tuple" _) _ _ _) _ _ _); refine b_tup (by walk_at "fam") (by assumption) ?_)
  | ((with_reducible show We _ _ (.Call (.Name "list" _) [.Call (.Name "range" _) _ _ _] _ _) _ _ _); refine we_listRg (by walk_at "fam") (Bt.list (by assumption)) (Bt.range (by assumption)) ?_)
  | ((with_reducible show We _ _ (.Call (.Name "list" _) _ _ _) _ _ _); refine b_lst (by walk_at "fam") (by assumption) ?_)
  | ((with_reducible show We _ _ (.Call (.Name "min" _) [_, _] _ _) _ _ _); refine b_min2 (by walk_at "fam") (by assumption) ?_)
  | ((with_reducible show We _ _ (.Call (.Name "min" _) [_] [_] _) _ _ _); refine we_minDD (by walk_at "fam") (Bt.min (by assumption)) ?_)
  | ((with_reducible show We _ _ (.Call (.Name "min" _) [_] [] _) _ _ _); refine b_min1 (by walk_at "fam") (by assumption) ?_)
  | ((with_reducible show We _ _ (.Call (.Name "sorted" _) _ _ _) _ _ _); refine b_sorted (by walk_at "fam") (by assumption) ?_)
  | ((with_reducible show We _ _ (.Call (.Attribute _ "append" _) _ _ _) _ _ _); refine we_append (by walk_at "fam") ?_)
  | ((with_reducible show We _ _ (.Call (.Attribute _ "insert" _) [_, _] _ _) _ _ _); refine we_insert (by walk_at "fam") ?_)
  | ((with_reducible show We _ _ (.Call (.Name "max" _) [_] _ _) _ _ _); refine b_maxI (by walk_at "fam") (Bx.max (by assumption)) ?_)
  | ((with_reducible show We _ _ (.Call (.Attribute _ "join" _) [_] _ _) _ _ _); refine we_joinS (by walk_at "fam") ?_)
  | ((with_reducible show We _ _ (.Call (.Attribute _ "setdefault" _) [_, _] _ _) _ _ _); refine we_dsetd (by walk_at "fam") ?_)
  | ((with_reducible show We _ _ (.Call (.Attribute _ "partition" _) [_] _ _) _ _ _); refine we_part (by walk_at "fam") ?_)
  | ((with_reducible show We _ _ (.Call (.Attribute _ "split" _) [_] _ _) _ _ _); refine we_splitS (by walk_at "fam") ?_)
  | ((with_reducible show We _ _ (.Call (.Name "str" _) [_] _ _) _ _ _); refine b_str (by walk_at "fam") (Bx.str (by assumption)) ?_)
  | ((with_reducible show We _ _ (.Call (.Name "any" _) [_] _ _) _ _ _); refine b_any (by walk_at "fam") (by assumption) ?_)
  | ((with_reducible show We _ _ (.Call (.Attribute _ "extend" _) _ _ _) _ _ _); refine we_extend (by walk_at "fam") ?_)
  | ((with_reducible show We _ _ (.Call (.Attribute _ "pop" _) [_, _] _ _) _ _ _); refine we_dpop (by walk_at "fam") ?_)
  | ((with_reducible show We _ _ (.Call (.Name _ _) _ _ _) _ _ _); refine we_call (by walk_at "fam") (by assumption) (by decide) ?_)
  | ((with_reducible show We _ _ (.Call (.Name _ _) [] _ _) _ _ _); refine we_make0 (by walk_at "fam") (by assumption) (by decide) ?_)
  | ((with_reducible show We _ _ (.Call (.Name _ _) _ _ _) _ _ _); refine we_make (by walk_at "fam") (by assumption) (by decide) ?_)
  | ((with_reducible show We _ _ (.Call (.Attribute _ _ _) (_ :: _) _ _) _ _ _); refine we_meth (by walk_at "fam") (by assumption) (by decide) ?_)
  | ((with_reducible show We _ _ (.Call (.Attribute _ _ _) [] _ _) _ _ _); refine we_meth0 (by walk_at "fam") (by assumption) (by decide) ?_))
local macro_rules | `(tactic| walk_at "e") => `(tactic| first
  | ((with_reducible show We _ _ (.Name _ _) _ _ _); first | refine we_varA (by walk_at "fam") (by walk_at "at") (by rfl) ?_ | refine we_gint (by walk_at "fam") (by assumption) ?_ | refine we_gstr (by walk_at "fam") (by assumption) ?_ | refine we_gtup (by walk_at "fam") (by assumption) ?_)
  | ((with_reducible show We _ _ (.Constant _ _ _) _ _ _); first | refine we_int ?_ | refine we_bl ?_ | refine we_non ?_ | refine we_str ?_)
  | ((with_reducible show We _ _ (.BinOp _ _ _ _) _ _ _); refine we_bin ?_)
  | ((with_reducible show We _ _ (.Compare _ [_] _ _) _ _ _); refine we_cmp ?_)
  | ((with_reducible show We _ _ (.Compare _ [_, _] _ _) _ _ _); refine we_chain ?_)
  | ((with_reducible show We _ _ (.BoolOp _ [_] _) _ _ _); refine we_one ?_)
  | ((with_reducible show We _ _ (.BoolOp .And _ _) _ _ _); refine we_and ?_)
  | ((with_reducible show We _ _ (.BoolOp .Or _ _) _ _ _); refine we_or ?_)
  | ((with_reducible show We _ _ (.UnaryOp .Not _ _) _ _ _); refine we_not ?_)
  | ((with_reducible show We _ _ (.UnaryOp .USub _ _) _ _ _); refine we_negI ?_)
  | ((with_reducible show We _ _ (.Dict [] [] _) _ _ _); refine we_dnew ?_)
  | ((with_reducible show We _ _ (.IfExp _ _ _ _) _ _ _); refine we_ifExp ?_)
  | ((with_reducible show We _ _ (.Tuple _ _ _) _ _ _); refine we_tup ?_)
  | ((with_reducible show We _ _ (.List _ _) _ _ _); refine we_lst ?_)
  | ((with_reducible show We _ _ (.Subscript _ (.Slice _ _ _ _) _) _ _ _); refine we_sliceTup (by walk_at "fam") ?_)
  | ((with_reducible show We _ _ (.Subscript _ _ _) _ _ _); refine we_ix ?_)
  | ((with_reducible show We _ _ (.Attribute _ _ _) _ _ _); refine we_fld (by walk_at "fam") ?_)
  | walk_at "call"
  | ((with_reducible show Wo _ _ none _ _ _); refine wo_none ?_)
  | ((with_reducible show Wo _ _ (some _) _ _ _); refine wo_some ?_)
  | ((with_reducible show Wr _ _ [] _ _ _); refine wr_nil ?_)
  | ((with_reducible show Wr _ _ (_ :: _) _ _ _); refine wr_cons ?_)
  | ((with_reducible show Wt _ _ (.UnaryOp .Not _ _) _ _ _); refine wt_not ?_)
  | ((with_reducible show Wt _ _ (.BoolOp .And _ _) _ _ _); refine wt_w (ww_and ?_))
  | ((with_reducible show Wt _ _ (.BoolOp .Or _ _) _ _ _); refine wt_w (ww_or ?_))
  | ((with_reducible show Wt _ _ (.Compare _ [_] _ _) _ _ _); refine wt_cmp ?_)
  | ((with_reducible show Wt _ _ _ _ _ _); refine wt_val ?_)
  | ((with_reducible show Ww _ _ (.BoolOp .And [_] _) _ _ _); refine ww_and1 ?_)
  | ((with_reducible show Ww _ _ (.BoolOp .Or [_] _) _ _ _); refine ww_or1 ?_)
  | ((with_reducible show Ww _ _ (.BoolOp .And _ _) _ _ _); refine ww_and ?_)
  | ((with_reducible show Ww _ _ (.BoolOp .Or _ _) _ _ _); refine ww_or ?_)
  | ((with_reducible show Ws _ _ [] _ _ _); refine ws_nil ?_)
  | ((with_reducible show Ws _ _ (_ :: _) _ _ _); refine ws_cons ?_)
  | ((with_reducible show Ws1 _ _ (.Return (some _) _) _ _ _); refine ws_ret ?_)
  | ((with_reducible show Ws1 _ _ (.If _ _ _ _) _ _ _); refine ws_if ?_)
  | ((with_reducible show Ws1 _ _ (.Expr _ _) _ _ _); refine ws_expr ?_)
  | ((with_reducible show Ws1 _ _ (.Assign [.Name _ _] (.ListComp _ _ _ _) _) _ _ _); fail)
  | ((with_reducible show Ws1 _ _ (.Assign [.Name _ _] _ _) _ _ _); refine ws_setA (by walk_at "fam") (by walk_at "at") ?_)
  | ((with_reducible show Ws1 _ _ (.Assign [.Attribute _ _ _] _ _) _ _ _); refine ws_fld (by walk_at "fam") ?_)
  | ((with_reducible show Ws1 _ _ (.Assign [_] _ _) _ _ _); refine ws_asg ?_)
  | ((with_reducible show Wts _ _ [] _ _ _); refine wts_nil ?_)
  | ((with_reducible show Wts _ _ [_] _ _ _); refine wts_one ?_)
  | ((with_reducible show Wg _ _ _ (.Name _ _) _ _ _ _); refine wg_nameA (by walk_at "fam") (by walk_at "at") ?_)
  | ((with_reducible show Wg _ _ _ (.Tuple _ _ _) _ _ _ _); refine wg_tup (by walk_at "fam") ?_)
  | ((with_reducible show Wg _ _ _ (.Subscript _ _ _) _ _ _ _); refine wg_sub ?_)
  | refine wgs_nil ?_ | refine wgs_cons ?_)
local macro_rules | `(tactic| walk_at "w") => `(tactic| repeat walk_at "e")
abbrev stLDue : Stmt := topS 12
theorem scLDue : FnScope ["_law_kind", "_law_heard", "_law_sender", "_law_number", "_law_pair", "_law_later"] ["_law_kind", "_law_heard", "_law_sender", "_law_number"] (defScope stLDue) := ⟨rfl, rfl, rfl, by decide +kernel, rfl, by decide +kernel, by decide +kernel⟩
abbrev stLSieve : Stmt := topS 13
theorem scLSieve : FnScope ["_law_kind", "_law_by_hand"] ["_law_kind", "_law_by_hand"] (defScope stLSieve) := ⟨rfl, rfl, rfl, by decide +kernel, rfl, by decide +kernel, by decide +kernel⟩
abbrev stLRows : Stmt := topS 14
theorem scLRows : FnScope ["_law_kind", "_law_heard", "_law_found", "_law_sender", "_law_pair", "_law_numbers"] ["_law_kind", "_law_heard"] (defScope stLRows) := ⟨rfl, rfl, rfl, by decide +kernel, rfl, by decide +kernel, by decide +kernel⟩
def hsM (hs : List Ltr) : List MV := hs.map fun p => .d (ltrD p)
theorem hsM_d (hs : List Ltr) : hsM hs = (hs.map ltrD).map .d := by unfold hsM; rw [List.map_map]; rfl
theorem hsM_ts (hs : List Ltr) : hsM hs = tsM (hs.map pN) := by unfold hsM tsM; rw [List.map_map]; rfl
def dueR (kd : Str) (hs : List Ltr) (p : Ltr) : Str :=
  if kd = "once" ∧ p ∈ hs then "again" else if kd = "row" ∧ (hs.any fun q => decide (q.1 = p.1) && decide (p.2 ≤ q.2)) = true then "late" else "heard"
/-- the greatest are the greatest -/
def GT (hs : List Ltr) : Prop := ∀ s, (aget (greatT hs) s = none ∧ ∀ q ∈ hs, q.1 ≠ s) ∨ ∃ g, aget (greatT hs) s = some g ∧ (s, g) ∈ hs ∧ ∀ q ∈ hs, q.1 = s → q.2 ≤ g
theorem GT_nil : GT [] := fun s => .inl ⟨rfl, by simp⟩
theorem GT_snoc {hs : List Ltr} (h : GT hs) {p : Ltr} (hp : ¬ p.2 ≤ (aget (greatT hs) p.1).getD (-1)) : GT (hs ++ [p]) := fun s => by
  rw [great_snoc, aget_put]
  by_cases e : s = p.1
  · rw [if_pos e]
    refine .inr ⟨p.2, rfl, by rw [e]; exact List.mem_append_right _ (List.mem_singleton.mpr rfl), fun q hq hs' => ?_⟩
    rcases List.mem_append.mp hq with hq | hq
    · rcases h s with ⟨h1, h2⟩ | ⟨g, h1, h2, h3⟩
      · exact absurd hs' (h2 q hq)
      · have := h3 q hq hs'
        rw [← e, h1] at hp
        have hp : ¬ p.2 ≤ g := hp
        omega
    · rw [List.mem_singleton.mp hq]; exact Int.le_refl _
  · rw [if_neg e]
    rcases h s with ⟨h1, h2⟩ | ⟨g, h1, h2, h3⟩
    · refine .inl ⟨h1, fun q hq => ?_⟩
      rcases List.mem_append.mp hq with hq | hq
      · exact h2 q hq
      · rw [List.mem_singleton.mp hq]; exact fun z => e z.symm
    · refine .inr ⟨g, h1, List.mem_append_left _ h2, fun q hq hs' => ?_⟩
      rcases List.mem_append.mp hq with hq | hq
      · exact h3 q hq hs'
      · rw [List.mem_singleton.mp hq] at hs' ⊢; exact absurd hs'.symm e
theorem due_hear {kd : Str} {hs : List Ltr} {p : Ltr} (h : kd = "row" → GT hs) (p0 : 0 ≤ p.2) : dueR kd hs p = hearR kd hs p := by
  unfold dueR hearR
  by_cases ho : kd = "once"
  · rw [if_pos ho]
    by_cases hp : p ∈ hs
    · rw [if_pos ⟨ho, hp⟩, if_pos hp]
    · rw [if_neg (fun z => hp z.2), if_neg hp, if_neg (fun z => by rw [ho] at z; exact absurd z.1 (by decide))]
  · rw [if_neg ho, if_neg (fun z => ho z.1)]
    by_cases hr : kd = "row"
    · rw [if_pos hr]
      have e : (hs.any fun q => decide (q.1 = p.1) && decide (p.2 ≤ q.2)) = true ↔ p.2 ≤ (aget (greatT hs) p.1).getD (-1) := by
        rcases h hr p.1 with ⟨h1, h2⟩ | ⟨g, h1, h2, h3⟩
        · rw [h1]
          constructor
          · intro z
            obtain ⟨q, hq, hz⟩ := List.any_eq_true.mp z
            rw [Bool.and_eq_true, decide_eq_true_eq] at hz
            exact absurd hz.1 (h2 q hq)
          · intro z
            have z : p.2 ≤ -1 := z
            omega
        · rw [h1]
          constructor
          · intro z
            obtain ⟨q, hq, hz⟩ := List.any_eq_true.mp z
            rw [Bool.and_eq_true, decide_eq_true_eq, decide_eq_true_eq] at hz
            exact Int.le_trans hz.2 (h3 q hq hz.1)
          · intro z
            have z : p.2 ≤ g := z
            exact List.any_eq_true.mpr ⟨_, h2, by simp [z]⟩
      by_cases hl : p.2 ≤ (aget (greatT hs) p.1).getD (-1)
      · rw [if_pos ⟨hr, e.mpr hl⟩, if_pos hl]
      · rw [if_neg (fun z => hl (e.mp z.2)), if_neg hl]
    · rw [if_neg hr, if_neg (fun z => hr z.1)]
def sLDue (xs : List MV) (m : Mm) (Q : QV) : Prop := ∃ (kd : Str) (x : MV) (p : Ltr) (hs : List Ltr), xs = [.d (.str kd), x, .d (.int p.1), .d (.int p.2)] ∧ lstOf m x = some (hsM hs) ∧ seqOf m x = some (hsM hs) ∧ knd x = true ∧ hs.length ≤ 1000 ∧ Q (.d (.str (dueR kd hs p))) m
def fresh (w : World) (CF CL CO CT : Addr) (kd : Str) (n : Nat) : Mm :=
  if kd = "plain" then [.ins CF []] else if kd = "loose" then [.ins CL []] else if kd = "once" then [.ins CO [("pairs", .r (n + 1))], .dn w []] else [.ins CT [("greatest", .r (n + 1))], .dct []]
def sLSieve (w : World) (CF CL CO CT : Addr) (xs : List MV) (m : Mm) (Q : QV) : Prop := ∃ (kd : Str) (b : Bool), xs = [.d (.str kd), .d (.bool b)] ∧ Ks kd ∧ Q (.r m.length) (m ++ fresh w CF CL CO CT kd m.length)
def rowT (hs : List Ltr) : List PyData := (srtI ((greatT hs).map (·.1))).map fun s => ltrD (s, (aget (greatT hs) s).getD 0)
def sLRows (xs : List MV) (m : Mm) (Q : QV) : Prop := ∃ (kd : Str) (x : MV) (hs : List Ltr), xs = [.d (.str kd), x] ∧ Ks kd ∧ (∀ t : Mm, lstOf (m ++ t) x = some (hsM hs) ∧ seqOf (m ++ t) x = some (hsM hs)) ∧ knd x = true ∧ hs.length < 64 ∧ inB hs ∧ (∀ p ∈ hs, p.1 < 16) ∧
  ((kd = "plain" ∨ kd = "loose") → Q (.d (.tuple [])) m) ∧ (kd = "once" → ∀ us : List (List Int), us.Perm (hs.map pN) → us.Pairwise (fun s t => TS.code 1000000 s ≤ TS.code 1000000 t) → Q (.d (.tuple (us.map fun ns => .tuple (ns.map .int)))) m) ∧
  (kd = "row" → GT hs ∧ Q (.d (.tuple (rowT hs))) m)
theorem plain_ltrs : ∀ hs : List Ltr, PyData.plainAll (hs.map ltrD) = true
  | [] => rfl
  | a :: l => by rw [List.map_cons, PyData.plainAll, plain_ltrs l]; rfl
theorem eqv_ltr (a b : Ltr) : PyData.eqv (ltrD a) (ltrD b) = decide (a = b) := by
  obtain ⟨a1, a2⟩ := a; obtain ⟨b1, b2⟩ := b
  simp only [ltrD, PyData.eqv, PyData.eqvAll]
  rw [Bool.eq_iff_iff]
  simp
theorem md_inj : ∀ {a b : List PyData}, a.map MV.d = b.map MV.d → a = b
  | [], [], _ => rfl
  | [], _ :: _, h => by cases h
  | _ :: _, [], h => by cases h
  | a :: as, b :: bs, h => by
    rw [List.map_cons, List.map_cons] at h
    injection h with h1 h2
    injection h1 with h1
    rw [h1, md_inj h2]
theorem dat_of_lst {m : Mm} {x : MV} {ds : List PyData} (h : lstOf m x = some (ds.map .d)) : datOf m x = some (.list ds) := by
  cases x with
  | d y =>
    cases y with
    | list es =>
      have h : some (es.map MV.d) = some (ds.map .d) := h
      rw [md_inj (Option.some.inj h)]
      rfl
    | none => cases h
    | bool _ => cases h
    | int _ => cases h
    | str _ => cases h
    | tuple _ => cases h
    | dict _ => cases h
  | r i =>
    have h : (match m[i]? with | some (.lst xs) => some xs | _ => none) = some (ds.map .d) := h
    show (match m[i]? with | some (.lst xs) => (allD xs).map PyData.list | _ => none) = _
    cases ho : m[i]? with
    | none => rw [ho] at h; cases h
    | some o =>
      rw [ho] at h
      cases o with
      | lst xs =>
        have h : some xs = some (ds.map .d) := h
        rw [Option.some.inj h]
        show (allD (ds.map .d)).map PyData.list = _
        rw [allD_map]
        rfl
      | _ => cases h
  | t _ => cases h
  | s _ => cases h
  | x _ => cases h
  | e _ _ _ => cases h
  | pr _ _ => cases h
section
variable {P : Program} {w : World} {K : PySem.W.Frag} {mg : Str → Option Value} {base : Heap} {f : Addr} {fd : FuncData} {CF CL CO CT : Addr}
theorem ok_ldue (F : Fun K "_law_due" "_law_due" stLDue f fd) (B : Bt mg) : FnOk P w K mg base CX0 1 f fd ["_law_kind", "_law_heard", "_law_sender", "_law_number"] (spM K sLDue) := by
  refine fn_m F scLDue (fun xs m Q h => by obtain ⟨_, _, _, _, rfl, _⟩ := h; rfl) fun X Fm xs m Q ⟨kd, x, p, hs', ex, hx, hx2, hk, hl, q⟩ hs => ?_
  subst ex
  have tail : ¬ (kd = "once" ∧ p ∈ hs') → Ws X K ((defBody stLDue).drop 1) [some (.d (.str kd)), some x, some (.d (.int p.1)), some (.d (.int p.2)), none, none] m (EndF m.length Q) := fun hn => by
    refine ws_cons (ws_setLc Fm 5 [("_law_pair", 4)] (wi_l Fm ?_))
    walk_at "w"
    refine ⟨_, hx2, hk, by unfold hsM; rw [List.length_map]; omega, fun j acc m' => m' = m ∧ acc = ((hs'.take j).filter fun q => decide (q.1 = p.1) && decide (p.2 ≤ q.2)).map fun q => .d (ltrD q), ⟨rfl, rfl⟩, fun _ _ _ _ h => by rw [h.1]; exact hx2, ?_, ?_⟩
    · rintro j y acc m' hy ⟨rfl, rfl⟩
      obtain ⟨qq, hq, rfl⟩ := map_get hy
      have fl : ∀ c : Bool, (decide (qq.1 = p.1) && decide (p.2 ≤ qq.2)) = c → (hs'.take (j + 1)).filter (fun q => decide (q.1 = p.1) && decide (p.2 ≤ q.2)) = (hs'.take j).filter (fun q => decide (q.1 = p.1) && decide (p.2 ≤ q.2)) ++ if c = true then [qq] else [] := fun c e => by
        rw [List.take_add_one, hq, List.filter_append]
        show _ ++ List.filter _ [qq] = _
        rw [List.filter_cons, e]
        cases c <;> rfl
      walk_at "w"
      refine ix_w (Fam.blk Fm _) (y := .d (.int qq.1)) (xs := [.d (.int qq.1), .d (.int qq.2)]) rfl rfl ?_
      walk_at "w"
      refine o_eqI (Fam.blk Fm _) ⟨_, rfl, ?_⟩
      by_cases e1 : qq.1 = p.1
      · rw [decide_eq_true e1]
        refine L2.iteT ?_
        walk_at "w"
        refine ix_w (Fam.blk Fm _) (y := .d (.int qq.2)) (xs := [.d (.int qq.1), .d (.int qq.2)]) rfl rfl ?_
        walk_at "w"
        refine o_ge ⟨_, rfl, ?_⟩
        by_cases e2 : p.2 ≤ qq.2
        · rw [decide_eq_true e2]
          refine L2.iteT ?_
          walk_at "w"
          exact ⟨rfl, by rw [fl true (by rw [decide_eq_true e1, decide_eq_true e2]; rfl)]; simp⟩
        · rw [decide_eq_false e2]
          exact L2.iteF ⟨rfl, by rw [fl false (by rw [decide_eq_false e2]; simp)]; simp⟩
      · rw [decide_eq_false e1]
        exact L2.iteF (L2.iteF ⟨rfl, by rw [fl false (by rw [decide_eq_false e1]; simp)]; simp⟩)
    · rintro acc m' ⟨rfl, rfl⟩
      rw [show (hsM hs').length = hs'.length from by unfold hsM; rw [List.length_map], List.take_length]
      obtain ⟨lt, elt⟩ : ∃ lt, hs'.filter (fun q => decide (q.1 = p.1) && decide (p.2 ≤ q.2)) = lt := ⟨_, rfl⟩
      have any : (hs'.any fun q => decide (q.1 = p.1) && decide (p.2 ≤ q.2)) = true ↔ 0 < lt.length := by
        rw [← elt, List.any_eq_true, List.length_pos_iff_exists_mem]
        constructor
        · rintro ⟨q, h1, h2⟩; exact ⟨q, List.mem_filter.mpr ⟨h1, h2⟩⟩
        · rintro ⟨q, h⟩; obtain ⟨h1, h2⟩ := List.mem_filter.mp h; exact ⟨q, h1, h2⟩
      rw [elt]
      refine .inl ⟨lt.map ltrD, by rw [List.map_map]; rfl, ?_⟩
      refine ws_cons ?_
      walk_at "w"
      refine o_eq Fm rfl rfl rfl rfl (by simp [PyData.depth]) ⟨_, rfl, ?_⟩
      rw [eqv_ss]
      unfold dueR at q
      rw [if_neg hn] at q
      by_cases hr : kd = "row"
      · rw [decide_eq_true hr]
        refine L2.iteT ?_
        walk_at "w"
        refine .inl ⟨_, rfl, ?_⟩
        rw [List.length_map, List.length_map]
        walk_at "w"
        refine o_gt ⟨_, rfl, ?_⟩
        by_cases hl : 0 < lt.length
        · rw [decide_eq_true (by omega)]
          rw [if_pos ⟨hr, any.mpr hl⟩] at q
          refine L2.iteT ?_
          walk_at "w"
          exact .inl q
        · rw [decide_eq_false (by omega)]
          rw [if_neg (fun z => hl (any.mp z.2))] at q
          refine L2.iteF (ws_nil ?_)
          walk_at "w"
          exact .inl q
      · rw [decide_eq_false hr]
        rw [if_neg (fun z => hr z.1)] at q
        refine L2.iteF (L2.iteF (ws_nil ?_))
        walk_at "w"
        exact .inl q
  have dx : datOf m x = some (.list (hs'.map ltrD)) := dat_of_lst (by rw [hx, hsM_d])
  refine ws_cons ?_
  walk_at "w"
  refine o_eq Fm rfl rfl rfl rfl (by simp [PyData.depth]) ⟨_, rfl, ?_⟩
  rw [eqv_ss]
  by_cases ho : kd = "once"
  · rw [decide_eq_true ho]
    refine L2.iteT ?_
    walk_at "w"
    refine ⟨[.int p.1, .int p.2], rfl, Nat.le_of_ble_eq_true rfl, ?_⟩
    walk_at "w"
    refine o_in Fm (d := ltrD p) (xs := hs'.map ltrD) rfl (.inl dx) (plain_ltrs hs') rfl (by simp [PyData.depth, PyData.depthAll]; omega) ⟨_, rfl, ?_⟩
    have ea : ((hs'.map ltrD).any fun z => PyData.eqv z (ltrD p)) = decide (p ∈ hs') := by
      rw [Bool.eq_iff_iff, List.any_eq_true, decide_eq_true_eq]
      constructor
      · rintro ⟨z, hz, e⟩
        obtain ⟨q, hq, rfl⟩ := List.mem_map.mp hz
        rw [eqv_ltr, decide_eq_true_eq] at e
        rw [← e]; exact hq
      · intro h
        exact ⟨ltrD p, List.mem_map.mpr ⟨p, h, rfl⟩, by rw [eqv_ltr]; exact decide_eq_true rfl⟩
    rw [ea]
    by_cases hp : p ∈ hs'
    · rw [decide_eq_true hp]
      refine L2.iteT ?_
      walk_at "w"
      unfold dueR at q
      rw [if_pos ⟨ho, hp⟩] at q
      exact .inl q
    · rw [decide_eq_false hp]
      exact L2.iteF (ws_nil (tail fun z => hp z.2))
  · rw [decide_eq_false ho]
    exact L2.iteF (L2.iteF (ws_nil (tail fun z => ho z.1)))
theorem ok_lsieve (F : Fun K "_law_sieve" "_law_sieve" stLSieve f fd) (MF : Mb K CF) (aF : mg "Filter" = some (.ref CF)) (ML : Mb K CL) (aL : mg "Loose" = some (.ref CL)) (C1 : Cak P w K mg base 1 CO "Once" (sOi CO w)) (C2 : Cak P w K mg base 1 CT "Turn" (sTi CT)) (C3 : Cal P w K mg base 3 "filter_of" 1 (sFo w CL CO CT)) : FnOk P w K mg base CX0 4 f fd ["_law_kind", "_law_by_hand"] (spM K (sLSieve w CF CL CO CT)) := by
  refine fn_m F scLSieve (fun xs m Q h => by obtain ⟨_, _, rfl, _⟩ := h; rfl) fun X Fm xs m Q ⟨kd, b, ex, ks, q⟩ hs => ?_
  subst ex
  refine ws_cons ?_
  walk_at "w"
  refine o_eq Fm rfl rfl rfl rfl (by simp [PyData.depth]) ⟨_, rfl, ?_⟩
  rw [eqv_ss]
  rcases ks.is with rfl | rfl | rfl | rfl
  · rw [decide_eq_true rfl]
    exact L2.iteT (ws_cons (ws_ret (we_bare Fm MF aF (.inl q))))
  · rw [decide_eq_false (by decide)]
    refine L2.iteF (ws_nil ?_)
    walk_at "w"
    refine ⟨b, rfl, ?_⟩
    cases b with
    | false =>
      refine L2.iteT ?_
      walk_at "w"
      exact .inl ⟨rfl, .inl q⟩
    | true =>
      refine L2.iteF (ws_nil ?_)
      walk_at "w"
      refine o_eq Fm rfl rfl rfl rfl (by simp [PyData.depth]) ⟨_, rfl, ?_⟩
      rw [eqv_ss, decide_eq_true rfl]
      exact L2.iteT (ws_cons (ws_ret (we_bare Fm ML aL (.inl q))))
  · rw [decide_eq_false (by decide)]
    refine L2.iteF (ws_nil ?_)
    walk_at "w"
    refine ⟨b, rfl, ?_⟩
    cases b with
    | false =>
      refine L2.iteT ?_
      walk_at "w"
      exact .inr (.inl ⟨rfl, .inl q⟩)
    | true =>
      refine L2.iteF (ws_nil ?_)
      walk_at "w"
      refine o_eq Fm rfl rfl rfl rfl (by simp [PyData.depth]) ⟨_, rfl, ?_⟩
      rw [eqv_ss, decide_eq_false (by decide)]
      refine L2.iteF (ws_nil ?_)
      walk_at "w"
      refine o_eq Fm rfl rfl rfl rfl (by simp [PyData.depth]) ⟨_, rfl, ?_⟩
      rw [eqv_ss, decide_eq_true rfl]
      exact L2.iteT (ws_cons (ws_ret (we_make0 Fm C1 (by decide) ⟨m, rfl, rfl, rfl, .inl q⟩)))
  · rw [decide_eq_false (by decide)]
    refine L2.iteF (ws_nil ?_)
    walk_at "w"
    refine ⟨b, rfl, ?_⟩
    cases b with
    | false =>
      refine L2.iteT ?_
      walk_at "w"
      exact .inr (.inr ⟨rfl, .inl q⟩)
    | true =>
      refine L2.iteF (ws_nil ?_)
      walk_at "w"
      refine o_eq Fm rfl rfl rfl rfl (by simp [PyData.depth]) ⟨_, rfl, ?_⟩
      rw [eqv_ss, decide_eq_false (by decide)]
      refine L2.iteF (ws_nil ?_)
      walk_at "w"
      refine o_eq Fm rfl rfl rfl rfl (by simp [PyData.depth]) ⟨_, rfl, ?_⟩
      rw [eqv_ss, decide_eq_false (by decide)]
      refine L2.iteF (ws_nil (ws_cons (ws_ret (we_make0 Fm C2 (by decide) ⟨m, rfl, rfl, rfl, .inl q⟩))))
end

end Wn
set_option Elab.async false
set_option linter.all false
set_option maxRecDepth 100000
set_option maxHeartbeats 2000000
set_option autoImplicit false
set_option pp.maxSteps 600
namespace Wn
open PySem L2
local macro_rules | `(tactic| walk_at "fam") => `(tactic| first | assumption | exact Fam.blk (by assumption) _ | exact Fam.blk (Fam.blk (by assumption) _) _)
local macro_rules | `(tactic| walk_at "at") => `(tactic| with_reducible first | exact At.z | exact At.s At.z | exact At.s (At.s At.z) | exact At.s (At.s (At.s At.z)) | exact At.s (At.s (At.s (At.s At.z))) | exact At.s (At.s (At.s (At.s (At.s At.z)))) | exact At.s (At.s (At.s (At.s (At.s (At.s At.z))))) | exact At.s (At.s (At.s (At.s (At.s (At.s (At.s At.z)))))) | exact At.s (At.s (At.s (At.s (At.s (At.s (At.s (At.s At.z))))))) | exact At.s (At.s (At.s (At.s (At.s (At.s (At.s (At.s (At.s At.z)))))))) | exact At.s (At.s (At.s (At.s (At.s (At.s (At.s (At.s (At.s (At.s At.z))))))))) | exact At.s (At.s (At.s (At.s (At.s (At.s (At.s (At.s (At.s (At.s (At.s At.z)))))))))) | exact At.s (At.s (At.s (At.s (At.s (At.s (At.s (At.s (At.s (At.s (At.s (At.s At.z))))))))))) | exact At.s (At.s (At.s (At.s (At.s (At.s (At.s (At.s (At.s (At.s (At.s (At.s (At.s At.z)))))))))))) | exact At.s (At.s (At.s (At.s (At.s (At.s (At.s (At.s (At.s (At.s (At.s (At.s (At.s (At.s At.z))))))))))))) | exact At.s (At.s (At.s (At.s (At.s (At.s (At.s (At.s (At.s (At.s (At.s (At.s (At.s (At.s (At.s At.z)))))))))))))) | exact At.s (At.s (At.s (At.s (At.s (At.s (At.s (At.s (At.s (At.s (At.s (At.s (At.s (At.s (At.s (At.s At.z))))))))))))))) | exact At.s (At.s (At.s (At.s (At.s (At.s (At.s (At.s (At.s (At.s (At.s (At.s (At.s (At.s (At.s (At.s (At.s At.z)))))))))))))))) | exact At.s (At.s (At.s (At.s (At.s (At.s (At.s (At.s (At.s (At.s (At.s (At.s (At.s (At.s (At.s (At.s (At.s (At.s At.z))))))))))))))))) | exact At.s (At.s (At.s (At.s (At.s (At.s (At.s (At.s (At.s (At.s (At.s (At.s (At.s (At.s (At.s (At.s (At.s (At.s (At.s At.z)))))))))))))))))) | exact At.s (At.s (At.s (At.s (At.s (At.s (At.s (At.s (At.s (At.s (At.s (At.s (At.s (At.s (At.s (At.s (At.s (At.s (At.s (At.s At.z))))))))))))))))))) | exact At.s (At.s (At.s (At.s (At.s (At.s (At.s (At.s (At.s (At.s (At.s (At.s (At.s (At.s (At.s (At.s (At.s (At.s (At.s (At.s (At.s At.z)))))))))))))))))))))
local macro_rules | `(tactic| walk_at "call") => `(tactic| first
  | ((with_reducible show We _ _ (.Call (.Name "len" _) _ _ _) _ _ _); refine b_lenU (by walk_at "fam") (by assumption) ?_)
  | ((with_reducible show We _ _ (.Call (.Name "isinstance" _) [_, .Name "int" _] _ _) _ _ _); refine b_isiInt (by walk_at "fam") (by assumption) ?_)
  | ((with_reducible show We _ _ (.Call (.Name "isinstance" _) [_, .Name "bool" _] _ _) _ _ _); refine b_isiBool (by walk_at "fam") (by assumption) ?_)
  | ((with_reducible show We _ _ (.Call (.Name "isinstance" _) [_, .Name "tuple" _] _ _) _ _ _); refine b_isiTup (by walk_at "fam") (by assumption) ?_)
  | ((with_reducible show We _ _ (.Call (.Name "isinstance" _) [_, .Name "str" _] _ _) _ _ _); refine b_isi (T := "str") (n := "str") (by walk_at "fam") (by assumption) (Bx.str (by assumption)) bo_str ?_)
  | ((with_reducible show We _ _ (.Call (.Name "max" _) [_, _] _ _) _ _ _); refine b_max2 (by walk_at "fam") (Bx.max (by assumption)) ?_)
  | ((with_reducible show We _ _ (.Call (.Name "dict" _) _ _ _) _ _ _); refine b_dict (by walk_at "fam") (Bx.dict (by assumption)) ?_)
  | ((with_reducible show We _ _ (.Call (.Name "all" _) _ _ _) _ _ _); refine b_all (by walk_at "fam") (Bx.all (by assumption)) ?_)
  | ((with_reducible show We _ _ (.Call (.Name "abs" _) _ _ _) _ _ _); refine b_abs (by walk_at "fam") (by assumption) ?_)
  | ((with_reducible show We _ _ (.Call (.Name "int" _) _ _ _) _ _ _); refine b_intB (by walk_at "fam") (by assumption) ?_)
  | ((with_reducible show We _ _ (.Call (.Name "tuple" _) _ _ _) _ _ _); refine b_tup (by walk_at "fam") (by assumption) ?_)
  | ((with_reducible show We _ _ (.Call (.Name "list" _) [.Call (.Name "range" _) _ _ _] _ _) _ _ _); refine we_listRg (by walk_at "fam") (Bt.list (by assumption)) (Bt.range (by assumption)) ?_)
  | ((with_reducible show We _ _ (.Call (.Name "list" _) _ _ _) _ _ _); refine b_lst (by walk_at "fam") (by assumption) ?_)
  | ((with_reducible show We _ _ (.Call (.Name "min" _) [_, _] _ _) _ _ _); refine b_min2 (by walk_at "fam") (by assumption) ?_)
  | ((with_reducible show We _ _ (.Call (.Name "min" _) [_] [_] _) _ _ _); refine we_minDD (by walk_at "fam") (Bt.min (by assumption)) ?_)
  | ((with_reducible show We _ _ (.Call (.Name "min" _) [_] [] _) _ _ _); refine b_min1 (by walk_at "fam") (by assumption) ?_)
  | ((with_reducible show We _ _ (.Call (.Name "sorted" _) _ _ _) _ _ _); refine b_sorted (by walk_at "fam") (by assumption) ?_)
  | ((with_reducible show We _ _ (.Call (.Attribute _ "append" _) _ _ _) _ _ _); refine we_append (by walk_at "fam") ?_)
  | ((with_reducible show We _ _ (.Call (.Attribute _ "insert" _) [_, _] _ _) _ _ _); refine we_insert (by walk_at "fam") ?_)
  | ((with_reducible show We _ _ (.Call (.Name "max" _) [_] _ _) _ _ _); refine b_maxI (by walk_at "fam") (Bx.max (by assumption)) ?_)
  | ((with_reducible show We _ _ (.Call (.Attribute _ "join" _) [_] _ _) _ _ _); refine we_joinS (by walk_at "fam") ?_)
  | ((with_reducible show We _ _ (.Call (.Attribute _ "setdefault" _) [_, _] _ _) _ _ _); refine we_dsetd (by walk_at "fam") ?_)
  | ((with_reducible show We _ _ (.Call (.Attribute _ "partition" _) [_] _ _) _ _ _); refine we_part (by walk_at "fam") ?_)
  | ((with_reducible show We _ _ (.Call (.Attribute _ "split" _) [_] _ _) _ _ _); refine we_splitS (by walk_at "fam") ?_)
  | ((with_reducible show We _ _ (.Call (.Name "str" _) [_] _ _) _ _ _); refine b_str (by walk_at "fam") (Bx.str (by assumption)) ?_)
  | ((with_reducible show We _ _ (.Call (.Name "any" _) [_] _ _) _ _ _); refine b_any (by walk_at "fam") (by assumption) ?_)
  | ((with_reducible show We _ _ (.Call (.Attribute _ "extend" _) _ _ _) _ _ _); refine we_extend (by walk_at "fam") ?_)
  | ((with_reducible show We _ _ (.Call (.Attribute _ "pop" _) [_, _] _ _) _ _ _); refine we_dpop (by walk_at "fam") ?_)
  | ((with_reducible show We _ _ (.Call (.Name _ _) _ _ _) _ _ _); refine we_call (by walk_at "fam") (by assumption) (by decide) ?_)
  | ((with_reducible show We _ _ (.Call (.Name _ _) [] _ _) _ _ _); refine we_make0 (by walk_at "fam") (by assumption) (by decide) ?_)
  | ((with_reducible show We _ _ (.Call (.Name _ _) _ _ _) _ _ _); refine we_make (by walk_at "fam") (by assumption) (by decide) ?_)
  | ((with_reducible show We _ _ (.Call (.Attribute _ _ _) (_ :: _) _ _) _ _ _); refine we_meth (by walk_at "fam") (by assumption) (by decide) ?_)
  | ((with_reducible show We _ _ (.Call (.Attribute _ _ _) [] _ _) _ _ _); refine we_meth0 (by walk_at "fam") (by assumption) (by decide) ?_))
local macro_rules | `(tactic| walk_at "e") => `(tactic| first
  | ((with_reducible show We _ _ (.Name _ _) _ _ _); first | refine we_varA (by walk_at "fam") (by walk_at "at") (by rfl) ?_ | refine we_gint (by walk_at "fam") (by assumption) ?_ | refine we_gstr (by walk_at "fam") (by assumption) ?_ | refine we_gtup (by walk_at "fam") (by assumption) ?_)
  | ((with_reducible show We _ _ (.Constant _ _ _) _ _ _); first | refine we_int ?_ | refine we_bl ?_ | refine we_non ?_ | refine we_str ?_)
  | ((with_reducible show We _ _ (.BinOp _ _ _ _) _ _ _); refine we_bin ?_)
  | ((with_reducible show We _ _ (.Compare _ [_] _ _) _ _ _); refine we_cmp ?_)
  | ((with_reducible show We _ _ (.Compare _ [_, _] _ _) _ _ _); refine we_chain ?_)
  | ((with_reducible show We _ _ (.BoolOp _ [_] _) _ _ _); refine we_one ?_)
  | ((with_reducible show We _ _ (.BoolOp .And _ _) _ _ _); refine we_and ?_)
  | ((with_reducible show We _ _ (.BoolOp .Or _ _) _ _ _); refine we_or ?_)
  | ((with_reducible show We _ _ (.UnaryOp .Not _ _) _ _ _); refine we_not ?_)
  | ((with_reducible show We _ _ (.UnaryOp .USub _ _) _ _ _); refine we_negI ?_)
  | ((with_reducible show We _ _ (.Dict [] [] _) _ _ _); refine we_dnew ?_)
  | ((with_reducible show We _ _ (.IfExp _ _ _ _) _ _ _); refine we_ifExp ?_)
  | ((with_reducible show We _ _ (.Tuple _ _ _) _ _ _); refine we_tup ?_)
  | ((with_reducible show We _ _ (.List _ _) _ _ _); refine we_lst ?_)
  | ((with_reducible show We _ _ (.Subscript _ (.Slice _ _ _ _) _) _ _ _); refine we_sliceTup (by walk_at "fam") ?_)
  | ((with_reducible show We _ _ (.Subscript _ _ _) _ _ _); refine we_ix ?_)
  | ((with_reducible show We _ _ (.Attribute _ _ _) _ _ _); refine we_fld (by walk_at "fam") ?_)
  | walk_at "call"
  | ((with_reducible show Wo _ _ none _ _ _); refine wo_none ?_)
  | ((with_reducible show Wo _ _ (some _) _ _ _); refine wo_some ?_)
  | ((with_reducible show Wr _ _ [] _ _ _); refine wr_nil ?_)
  | ((with_reducible show Wr _ _ (_ :: _) _ _ _); refine wr_cons ?_)
  | ((with_reducible show Wt _ _ (.UnaryOp .Not _ _) _ _ _); refine wt_not ?_)
  | ((with_reducible show Wt _ _ (.BoolOp .And _ _) _ _ _); refine wt_w (ww_and ?_))
  | ((with_reducible show Wt _ _ (.BoolOp .Or _ _) _ _ _); refine wt_w (ww_or ?_))
  | ((with_reducible show Wt _ _ (.Compare _ [_] _ _) _ _ _); refine wt_cmp ?_)
  | ((with_reducible show Wt _ _ _ _ _ _); refine wt_val ?_)
  | ((with_reducible show Ww _ _ (.BoolOp .And [_] _) _ _ _); refine ww_and1 ?_)
  | ((with_reducible show Ww _ _ (.BoolOp .Or [_] _) _ _ _); refine ww_or1 ?_)
  | ((with_reducible show Ww _ _ (.BoolOp .And _ _) _ _ _); refine ww_and ?_)
  | ((with_reducible show Ww _ _ (.BoolOp .Or _ _) _ _ _); refine ww_or ?_)
  | ((with_reducible show Ws _ _ [] _ _ _); refine ws_nil ?_)
  | ((with_reducible show Ws _ _ (_ :: _) _ _ _); refine ws_cons ?_)
  | ((with_reducible show Ws1 _ _ (.Return (some _) _) _ _ _); refine ws_ret ?_)
  | ((with_reducible show Ws1 _ _ (.If _ _ _ _) _ _ _); refine ws_if ?_)
  | ((with_reducible show Ws1 _ _ (.Expr _ _) _ _ _); refine ws_expr ?_)
  | ((with_reducible show Ws1 _ _ (.Assign [.Name _ _] (.ListComp _ _ _ _) _) _ _ _); fail)
  | ((with_reducible show Ws1 _ _ (.Assign [.Name _ _] _ _) _ _ _); refine ws_setA (by walk_at "fam") (by walk_at "at") ?_)
  | ((with_reducible show Ws1 _ _ (.Assign [.Attribute _ _ _] _ _) _ _ _); refine ws_fld (by walk_at "fam") ?_)
  | ((with_reducible show Ws1 _ _ (.Assign [_] _ _) _ _ _); refine ws_asg ?_)
  | ((with_reducible show Wts _ _ [] _ _ _); refine wts_nil ?_)
  | ((with_reducible show Wts _ _ [_] _ _ _); refine wts_one ?_)
  | ((with_reducible show Wg _ _ _ (.Name _ _) _ _ _ _); refine wg_nameA (by walk_at "fam") (by walk_at "at") ?_)
  | ((with_reducible show Wg _ _ _ (.Tuple _ _ _) _ _ _ _); refine wg_tup (by walk_at "fam") ?_)
  | ((with_reducible show Wg _ _ _ (.Subscript _ _ _) _ _ _ _); refine wg_sub ?_)
  | refine wgs_nil ?_ | refine wgs_cons ?_)
local macro_rules | `(tactic| walk_at "w") => `(tactic| repeat walk_at "e")
theorem great_nd (hs : List Ltr) : ((greatT hs).map (·.1)).Nodup := by
  have key : ∀ (hs : List Ltr) (acc : List (Int × Int)), (acc.map (·.1)).Nodup → ((hs.foldl (fun a p => aput a p.1 p.2) acc).map (·.1)).Nodup := by
    intro hs
    induction hs with
    | nil => intro acc h; exact h
    | cons a hs ih => intro acc h; exact ih _ (aput_nd h _ _)
  exact key hs [] List.nodup_nil
def occ (hs : List Ltr) (s : Nat) : Bool := (aget (greatT hs) (s : Int)).isSome
theorem occ_all {hs : List Ltr} (g : GT hs) (ib : inB hs) (l : ∀ p ∈ hs, p.1 < 16) : ((List.range 16).filter (occ hs)).map (fun s : Nat => (s : Int)) = srtI ((greatT hs).map (·.1)) := by
  refine srtI_uniq ?_ ?_
  · have nd : (((List.range 16).filter (occ hs)).map (fun s : Nat => (s : Int))).Nodup := by
      rw [List.nodup_iff_pairwise_ne, List.pairwise_map]
      exact (List.nodup_iff_pairwise_ne.mp (List.nodup_range.sublist List.filter_sublist)).imp fun ne e => ne (by omega)
    rw [List.perm_ext_iff_of_nodup nd (great_nd hs)]
    intro a
    rw [List.mem_map, ← aget_isSome]
    constructor
    · rintro ⟨s, hs', rfl⟩; exact (List.mem_filter.mp hs').2
    · intro h
      rcases g a with ⟨h1, _⟩ | ⟨v, h1, h2, _⟩
      · rw [h1] at h; cases h
      · have b := ib _ h2
        have b2 := l _ h2
        have b : 0 ≤ a := b.1
        have b2 : a < 16 := b2
        refine ⟨a.toNat, List.mem_filter.mpr ⟨List.mem_range.mpr (by omega), ?_⟩, by omega⟩
        unfold occ
        rw [show ((a.toNat : Nat) : Int) = a by omega]
        exact h
  · rw [List.pairwise_map]
    have p : ((List.range 16).filter (occ hs)).Pairwise (· < ·) := List.Pairwise.sublist List.filter_sublist List.pairwise_lt_range
    exact p.imp fun h => by omega
theorem rowT_occ {hs : List Ltr} (g : GT hs) (ib : inB hs) (l : ∀ p ∈ hs, p.1 < 16) : ((List.range 16).filter (occ hs)).map (fun s : Nat => ltrD ((s : Int), (aget (greatT hs) (s : Int)).getD 0)) = rowT hs := by
  unfold rowT
  rw [← occ_all g ib l, List.map_map]
  rfl
section
variable {P : Program} {w : World} {K : PySem.W.Frag} {mg : Str → Option Value} {base : Heap} {f : Addr} {fd : FuncData}
theorem ok_lrows (F : Fun K "_law_rows" "_law_rows" stLRows f fd) (B : Bt mg) (B2 : Bx mg) : FnOk P w K mg base CX0 1 f fd ["_law_kind", "_law_heard"] (spM K sLRows) := by
  refine fn_m F scLRows (fun xs m Q h => by obtain ⟨_, _, _, rfl, _⟩ := h; rfl) fun X Fm xs m Q ⟨kd, x, hs', ex, ks, hx, hk, hl, ib, l16, q1, q2, q3⟩ hs => ?_
  subst ex
  refine ws_cons ?_
  walk_at "w"
  refine ⟨[.str "loose", .str "plain"], rfl, Nat.le_of_ble_eq_true rfl, ?_⟩
  refine o_in Fm (d := .str kd) (xs := [.str "loose", .str "plain"]) rfl (.inr rfl) rfl rfl (by simp [PyData.depth]) ⟨_, rfl, ?_⟩
  have ka : (List.any [PyData.str "loose", .str "plain"] fun z => PyData.eqv z (.str kd)) = decide (kd = "plain" ∨ kd = "loose") := by
    rcases ks.is with rfl | rfl | rfl | rfl <;> simp [eqv_ss] <;> decide
  rw [ka]
  by_cases h1 : kd = "plain" ∨ kd = "loose"
  · rw [decide_eq_true h1]
    refine L2.iteT ?_
    walk_at "w"
    exact ⟨[], rfl, Nat.zero_le _, .inl (q1 h1)⟩
  · rw [decide_eq_false h1]
    refine L2.iteF (ws_nil ?_)
    walk_at "w"
    refine o_eq Fm rfl rfl rfl rfl (by simp [PyData.depth]) ⟨_, rfl, ?_⟩
    rw [eqv_ss]
    have x0 := hx []
    rw [List.append_nil] at x0
    by_cases ho : kd = "once"
    · rw [decide_eq_true ho]
      refine L2.iteT (ws_cons (ws_ret (b_tup Fm B (b_sortedT Fm B (d := 2) (Bn := 1000000) ?_))))
      walk_at "w"
      refine ⟨hs'.map pN, by rw [x0.1, hsM_ts], by rw [List.length_map]; exact hl, by decide, fun t ht => ?_, fun us pm pw => .inl ⟨us.map fun ns => .tuple (ns.map .int), by unfold tsM; rw [List.map_map]; rfl, _, rfl, .inl (q2 ho us pm pw)⟩⟩
      obtain ⟨p, hp, rfl⟩ := List.mem_map.mp ht
      obtain ⟨b1, b2, b3, b4⟩ := ib p hp
      refine ⟨rfl, fun y hy => ?_⟩
      unfold pN at hy
      simp at hy
      rcases hy with rfl | rfl
      · exact ⟨b1, b2⟩
      · exact ⟨b3, b4⟩
    · rw [decide_eq_false ho]
      have hr : kd = "row" := by
        rcases ks.is with h | h | h | h
        · exact absurd (.inl h) h1
        · exact absurd (.inr h) h1
        · exact absurd h ho
        · exact h
      obtain ⟨gt, q⟩ := q3 hr
      refine L2.iteF (ws_nil ?_)
      walk_at "w"
      refine ⟨Nat.zero_le _, .inr ?_⟩
      refine ws_cons (ws_for Fm (wi_range1 Fm B.range ?_))
      walk_at "w"
      refine ⟨16, rfl, by decide, by decide, ?_⟩
      show ∃ I : Nat → Ro → Mm → Prop, I 0 [some (.d (.str kd)), some x, some (.r m.length), none, none, none] (m ++ [.lst []]) ∧ _
      refine ⟨fun j ρ' m' => ∃ z3 z4 z5 : Option MV, ρ' = [some (.d (.str kd)), some x, some (.r m.length), z3, z4, z5] ∧ m' = m ++ [.lst ((((List.range j).filter (occ hs')).map fun s : Nat => ltrD ((s : Int), (aget (greatT hs') (s : Int)).getD 0)).map .d)], ⟨_, _, _, rfl, rfl⟩, fun _ _ _ _ _ => trivial, ?_, ?_⟩
      · rintro j y ρ' m' hy ⟨z3, z4, z5, rfl, rfl⟩
        obtain ⟨hj, rfl⟩ := rangeM_some hy
        obtain ⟨fd0, efd⟩ : ∃ l : List MV, ((((List.range j).filter (occ hs')).map fun s : Nat => ltrD ((s : Int), (aget (greatT hs') (s : Int)).getD 0)).map MV.d) = l := ⟨_, rfl⟩
        have lfd : fd0.length ≤ j := by rw [← efd, List.length_map, List.length_map]; exact Nat.le_trans (List.length_filter_le _ _) (by rw [List.length_range]; exact Nat.le_refl _)
        have hj : j < 16 := hj
        have nx : ∀ c : Bool, occ hs' j = c → ((((List.range (j + 1)).filter (occ hs')).map fun s : Nat => ltrD ((s : Int), (aget (greatT hs') (s : Int)).getD 0)).map MV.d) = fd0 ++ if c = true then [.d (ltrD ((j : Int), (aget (greatT hs') (j : Int)).getD 0))] else [] := fun c e => by
          rw [List.range_succ, List.filter_append, List.filter_cons, e, List.map_append, List.map_append, efd]
          cases c <;> rfl
        rw [efd]
        rw [Int.zero_add]
        refine wg_nameA Fm (by walk_at "at") ?_
        refine ws_cons (ws_setLc Fm 5 [("_law_pair", 4)] (wi_l Fm ?_))
        walk_at "w"
        refine ⟨_, (hx _).2, hk, by unfold hsM; rw [List.length_map]; omega, fun n acc m' => m' = m ++ [.lst fd0] ∧ acc = (((hs'.take n).filter fun q => decide (q.1 = (j : Int))).map (·.2)).map fun i => .d (.int i), ⟨rfl, rfl⟩, fun _ _ _ _ h => by rw [h.1]; exact (hx _).2, ?_, ?_⟩
        · rintro n y acc m' hy ⟨rfl, rfl⟩
          obtain ⟨qq, hq, rfl⟩ := map_get hy
          have fl : ∀ c : Bool, decide (qq.1 = (j : Int)) = c → (hs'.take (n + 1)).filter (fun q => decide (q.1 = (j : Int))) = (hs'.take n).filter (fun q => decide (q.1 = (j : Int))) ++ if c = true then [qq] else [] := fun c e => by
            rw [List.take_add_one, hq, List.filter_append]
            show _ ++ List.filter _ [qq] = _
            rw [List.filter_cons, e]
            cases c <;> rfl
          walk_at "w"
          refine ix_w (Fam.blk Fm _) (y := .d (.int qq.1)) (xs := [.d (.int qq.1), .d (.int qq.2)]) rfl rfl ?_
          walk_at "w"
          refine o_eqI (Fam.blk Fm _) ⟨_, rfl, ?_⟩
          by_cases e1 : qq.1 = (j : Int)
          · rw [decide_eq_true e1]
            refine L2.iteT ?_
            walk_at "w"
            refine ix_w (Fam.blk Fm _) (y := .d (.int qq.2)) (xs := [.d (.int qq.1), .d (.int qq.2)]) rfl rfl ?_
            exact ⟨rfl, by rw [fl true (decide_eq_true e1)]; simp⟩
          · rw [decide_eq_false e1]
            exact L2.iteF ⟨rfl, by rw [fl false (decide_eq_false e1)]; simp⟩
        · rintro acc m' ⟨rfl, rfl⟩
          rw [show (hsM hs').length = hs'.length from by unfold hsM; rw [List.length_map], List.take_length]
          obtain ⟨nn, enn⟩ : ∃ nn : List Int, (hs'.filter fun q => decide (q.1 = (j : Int))).map (·.2) = nn := ⟨_, rfl⟩
          have mem : ∀ v, v ∈ nn ↔ ((j : Int), v) ∈ hs' := fun v => by
            rw [← enn, List.mem_map]
            constructor
            · rintro ⟨q, hq, rfl⟩
              obtain ⟨h1, h2⟩ := List.mem_filter.mp hq
              rw [decide_eq_true_eq] at h2
              rw [← h2]; exact h1
            · intro h
              exact ⟨_, List.mem_filter.mpr ⟨h, decide_eq_true rfl⟩, rfl⟩
          rw [enn]
          refine .inl ⟨nn.map .int, by rw [List.map_map]; rfl, ?_⟩
          refine ws_cons ?_
          walk_at "w"
          refine .inl ⟨_, rfl, ?_⟩
          rw [List.length_map, List.length_map]
          walk_at "w"
          refine o_gt ⟨_, rfl, ?_⟩
          rcases gt (j : Int) with ⟨g1, g2⟩ | ⟨g, g1, g2, g3⟩
          · have e0 : nn = [] := List.eq_nil_iff_forall_not_mem.mpr fun v hv => g2 _ ((mem v).mp hv) rfl
            rw [e0, decide_eq_false (by simp)]
            have oc : occ hs' j = false := by unfold occ; rw [g1]; rfl
            exact L2.iteF (ws_nil (ws_nil ⟨_, _, _, rfl, by rw [nx false oc]; simp⟩))
          · have hg : g ∈ nn := (mem g).mpr g2
            have l1 : 0 < nn.length := List.length_pos_of_mem hg
            rw [decide_eq_true (by omega)]
            have oc : occ hs' j = true := by unfold occ; rw [g1]; rfl
            refine L2.iteT ?_
            walk_at "w"
            refine ⟨_, _, rfl, last_get _ _, ?_⟩
            walk_at "w"
            refine ⟨nn, by show some (List.map MV.d (List.map _ _)) = _; rw [List.map_map]; rfl, l1, fun t ht hall => ?_⟩
            have et : t = g := by
              have h1 := hall g hg
              have h2 : t ≤ g := g3 _ ((mem t).mp ht) rfl
              omega
            subst et
            walk_at "w"
            refine ⟨[.int (j : Nat), .int t], rfl, Nat.le_of_ble_eq_true rfl, _, last_get _ _, by omega, ?_⟩
            refine ws_nil (ws_nil ⟨_, _, _, rfl, ?_⟩)
            rw [nx true oc, g1]
            simp
      · rintro ρ' m' ⟨z3, z4, z5, rfl, rfl⟩
        refine ws_cons ?_
        walk_at "w"
        refine ⟨((List.range 16).filter (occ hs')).map fun s : Nat => ltrD ((s : Int), (aget (greatT hs') (s : Int)).getD 0), seqOf_r (last_get _ _), ?_⟩
        rw [rowT_occ gt ib l16]
        exact ret_drop hs trivial q
end

end Wn
set_option Elab.async false
set_option linter.all false
set_option maxRecDepth 100000
set_option maxHeartbeats 2000000
set_option autoImplicit false
set_option pp.maxSteps 600
namespace Wn
open PySem L2
local macro_rules | `(tactic| walk_at "fam") => `(tactic| first | assumption | exact Fam.blk (by assumption) _ | exact Fam.blk (Fam.blk (by assumption) _) _)
local macro_rules | `(tactic| walk_at "at") => `(tactic| with_reducible first | exact At.z | exact At.s At.z | exact At.s (At.s At.z) | exact At.s (At.s (At.s At.z)) | exact At.s (At.s (At.s (At.s At.z))) | exact At.s (At.s (At.s (At.s (At.s At.z)))) | exact At.s (At.s (At.s (At.s (At.s (At.s At.z))))) | exact At.s (At.s (At.s (At.s (At.s (At.s (At.s At.z)))))) | exact At.s (At.s (At.s (At.s (At.s (At.s (At.s (At.s At.z))))))) | exact At.s (At.s (At.s (At.s (At.s (At.s (At.s (At.s (At.s At.z)))))))) | exact At.s (At.s (At.s (At.s (At.s (At.s (At.s (At.s (At.s (At.s At.z))))))))) | exact At.s (At.s (At.s (At.s (At.s (At.s (At.s (At.s (At.s (At.s (At.s At.z)))))))))) | exact At.s (At.s (At.s (At.s (At.s (At.s (At.s (At.s (At.s (At.s (At.s (At.s At.z))))))))))) | exact At.s (At.s (At.s (At.s (At.s (At.s (At.s (At.s (At.s (At.s (At.s (At.s (At.s At.z)))))))))))) | exact At.s (At.s (At.s (At.s (At.s (At.s (At.s (At.s (At.s (At.s (At.s (At.s (At.s (At.s At.z))))))))))))) | exact At.s (At.s (At.s (At.s (At.s (At.s (At.s (At.s (At.s (At.s (At.s (At.s (At.s (At.s (At.s At.z)))))))))))))) | exact At.s (At.s (At.s (At.s (At.s (At.s (At.s (At.s (At.s (At.s (At.s (At.s (At.s (At.s (At.s (At.s At.z))))))))))))))) | exact At.s (At.s (At.s (At.s (At.s (At.s (At.s (At.s (At.s (At.s (At.s (At.s (At.s (At.s (At.s (At.s (At.s At.z)))))))))))))))) | exact At.s (At.s (At.s (At.s (At.s (At.s (At.s (At.s (At.s (At.s (At.s (At.s (At.s (At.s (At.s (At.s (At.s (At.s At.z))))))))))))))))) | exact At.s (At.s (At.s (At.s (At.s (At.s (At.s (At.s (At.s (At.s (At.s (At.s (At.s (At.s (At.s (At.s (At.s (At.s (At.s At.z)))))))))))))))))) | exact At.s (At.s (At.s (At.s (At.s (At.s (At.s (At.s (At.s (At.s (At.s (At.s (At.s (At.s (At.s (At.s (At.s (At.s (At.s (At.s At.z))))))))))))))))))) | exact At.s (At.s (At.s (At.s (At.s (At.s (At.s (At.s (At.s (At.s (At.s (At.s (At.s (At.s (At.s (At.s (At.s (At.s (At.s (At.s (At.s At.z)))))))))))))))))))))
local macro_rules | `(tactic| walk_at "call") => `(tactic| first
  | ((with_reducible show We _ _ (.Call (.Name "len" _) _ _ _) _ _ _); refine b_lenU (by walk_at "fam") (by assumption) ?_)
  | ((with_reducible show We _ _ (.Call (.Name "isinstance" _) [_, .Name "int" _] _ _) _ _ _); refine b_isiInt (by walk_at "fam") (by assumption) ?_)
  | ((with_reducible show We _ _ (.Call (.Name "isinstance" _) [_, .Name "bool" _] _ _) _ _ _); refine b_isiBool (by walk_at "fam") (by assumption) ?_)
  | ((with_reducible show We _ _ (.Call (.Name "isinstance" _) [_, .Name "tuple" _] _ _) _ _ _); refine b_isiTup (by walk_at "fam") (by assumption) ?_)
  | ((with_reducible show We _ _ (.Call (.Name "isinstance" _) [_, .Name "str" _] _ _) _ _ _); refine b_isi (T := "str") (n := "str") (by walk_at "fam") (by assumption) (Bx.str (by assumption)) bo_str ?_)
  | ((with_reducible show We _ _ (.Call (.Name "max" _) [_, _] _ _) _ _ _); refine b_max2 (by walk_at "fam") (Bx.max (by assumption)) ?_)
  | ((with_reducible show We _ _ (.Call (.Name "dict" _) _ _ _) _ _ _); refine b_dict (by walk_at "fam") (Bx.dict (by assumption)) ?_)
  | ((with_reducible show We _ _ (.Call (.Name "all" _) _ _ _) _ _ _); refine b_all (by walk_at "fam") (Bx.all (by assumption)) ?_)
  | ((with_reducible show We _ _ (.Call (.Name "abs" _) _ _ _) _ _ _); refine b_abs (by walk_at "fam") (by assumption) ?_)
  | ((with_reducible show We _ _ (.Call (.Name "int" _) _ _ _) _ _ _); refine b_intB (by walk_at "fam") (by assumption) ?_)
  | ((with_reducible show We _ _ (.Call (.Name "tuple" _) _ _ _) _ _ _); refine b_tup (by walk_at "fam") (by assumption) ?_)
  | ((with_reducible show We _ _ (.Call (.Name "list" _) [.Call (.Name "range" _) _ _ _] _ _) _ _ _); refine we_listRg (by walk_at "fam") (Bt.list (by assumption)) (Bt.range (by assumption)) ?_)
  | ((with_reducible show We _ _ (.Call (.Name "list" _) _ _ _) _ _ _); refine b_lst (by walk_at "fam") (by assumption) ?_)
  | ((with_reducible show We _ _ (.Call (.Name "min" _) [_, _] _ _) _ _ _); refine b_min2 (by walk_at "fam") (by assumption) ?_)
  | ((with_reducible show We _ _ (.Call (.Name "min" _) [_] [_] _) _ _ _); refine we_minDD (by walk_at "fam") (Bt.min (by assumption)) ?_)
  | ((with_reducible show We _ _ (.Call (.Name "min" _) [_] [] _) _ _ _); refine b_min1 (by walk_at "fam") (by assumption) ?_)
  | ((with_reducible show We _ _ (.Call (.Name "sorted" _) _ _ _) _ _ _); refine b_sorted (by walk_at "fam") (by assumption) ?_)
  | ((with_reducible show We _ _ (.Call (.Attribute _ "append" _) _ _ _) _ _ _); refine we_append (by walk_at "fam") ?_)
  | ((with_reducible show We _ _ (.Call (.Attribute _ "insert" _) [_, _] _ _) _ _ _); refine we_insert (by walk_at "fam") ?_)
  | ((with_reducible show We _ _ (.Call (.Name "max" _) [_] _ _) _ _ _); refine b_maxI (by walk_at "fam") (Bx.max (by assumption)) ?_)
  | ((with_reducible show We _ _ (.Call (.Attribute _ "join" _) [_] _ _) _ _ _); refine we_joinS (by walk_at "fam") ?_)
  | ((with_reducible show We _ _ (.Call (.Attribute _ "setdefault" _) [_, _] _ _) _ _ _); refine we_dsetd (by walk_at "fam") ?_)
  | ((with_reducible show We _ _ (.Call (.Attribute _ "partition" _) [_] _ _) _ _ _); refine we_part (by walk_at "fam") ?_)
  | ((with_reducible show We _ _ (.Call (.Attribute _ "split" _) [_] _ _) _ _ _); refine we_splitS (by walk_at "fam") ?_)
  | ((with_reducible show We _ _ (.Call (.Name "str" _) [_] _ _) _ _ _); refine b_str (by walk_at "fam") (Bx.str (by assumption)) ?_)
  | ((with_reducible show We _ _ (.Call (.Name "any" _) [_] _ _) _ _ _); refine b_any (by walk_at "fam") (by assumption) ?_)
  | ((with_reducible show We _ _ (.Call (.Attribute _ "extend" _) _ _ _) _ _ _); refine we_extend (by walk_at "fam") ?_)
  | ((with_reducible show We _ _ (.Call (.Attribute _ "pop" _) [_, _] _ _) _ _ _); refine we_dpop (by walk_at "fam") ?_)
  | ((with_reducible show We _ _ (.Call (.Name _ _) _ _ _) _ _ _); refine we_call (by walk_at "fam") (by assumption) (by decide) ?_)
  | ((with_reducible show We _ _ (.Call (.Name _ _) [] _ _) _ _ _); refine we_make0 (by walk_at "fam") (by assumption) (by decide) ?_)
  | ((with_reducible show We _ _ (.Call (.Name _ _) _ _ _) _ _ _); refine we_make (by walk_at "fam") (by assumption) (by decide) ?_)
  | ((with_reducible show We _ _ (.Call (.Attribute _ _ _) (_ :: _) _ _) _ _ _); refine we_meth (by walk_at "fam") (by assumption) (by decide) ?_)
  | ((with_reducible show We _ _ (.Call (.Attribute _ _ _) [] _ _) _ _ _); refine we_meth0 (by walk_at "fam") (by assumption) (by decide) ?_))
local macro_rules | `(tactic| walk_at "e") => `(tactic| first
  | ((with_reducible show We _ _ (.Name _ _) _ _ _); first | refine we_varA (by walk_at "fam") (by walk_at "at") (by rfl) ?_ | refine we_gint (by walk_at "fam") (by assumption) ?_ | refine we_gstr (by walk_at "fam") (by assumption) ?_ | refine we_gtup (by walk_at "fam") (by assumption) ?_)
  | ((with_reducible show We _ _ (.Constant _ _ _) _ _ _); first | refine we_int ?_ | refine we_bl ?_ | refine we_non ?_ | refine we_str ?_)
  | ((with_reducible show We _ _ (.BinOp _ _ _ _) _ _ _); refine we_bin ?_)
  | ((with_reducible show We _ _ (.Compare _ [_] _ _) _ _ _); refine we_cmp ?_)
  | ((with_reducible show We _ _ (.Compare _ [_, _] _ _) _ _ _); refine we_chain ?_)
  | ((with_reducible show We _ _ (.BoolOp _ [_] _) _ _ _); refine we_one ?_)
  | ((with_reducible show We _ _ (.BoolOp .And _ _) _ _ _); refine we_and ?_)
  | ((with_reducible show We _ _ (.BoolOp .Or _ _) _ _ _); refine we_or ?_)
  | ((with_reducible show We _ _ (.UnaryOp .Not _ _) _ _ _); refine we_not ?_)
  | ((with_reducible show We _ _ (.UnaryOp .USub _ _) _ _ _); refine we_negI ?_)
  | ((with_reducible show We _ _ (.Dict [] [] _) _ _ _); refine we_dnew ?_)
  | ((with_reducible show We _ _ (.IfExp _ _ _ _) _ _ _); refine we_ifExp ?_)
  | ((with_reducible show We _ _ (.Tuple _ _ _) _ _ _); refine we_tup ?_)
  | ((with_reducible show We _ _ (.List _ _) _ _ _); refine we_lst ?_)
  | ((with_reducible show We _ _ (.Subscript _ (.Slice _ _ _ _) _) _ _ _); refine we_sliceTup (by walk_at "fam") ?_)
  | ((with_reducible show We _ _ (.Subscript _ _ _) _ _ _); refine we_ix ?_)
  | ((with_reducible show We _ _ (.Attribute _ _ _) _ _ _); refine we_fld (by walk_at "fam") ?_)
  | walk_at "call"
  | ((with_reducible show Wo _ _ none _ _ _); refine wo_none ?_)
  | ((with_reducible show Wo _ _ (some _) _ _ _); refine wo_some ?_)
  | ((with_reducible show Wr _ _ [] _ _ _); refine wr_nil ?_)
  | ((with_reducible show Wr _ _ (_ :: _) _ _ _); refine wr_cons ?_)
  | ((with_reducible show Wt _ _ (.UnaryOp .Not _ _) _ _ _); refine wt_not ?_)
  | ((with_reducible show Wt _ _ (.BoolOp .And _ _) _ _ _); refine wt_w (ww_and ?_))
  | ((with_reducible show Wt _ _ (.BoolOp .Or _ _) _ _ _); refine wt_w (ww_or ?_))
  | ((with_reducible show Wt _ _ (.Compare _ [_] _ _) _ _ _); refine wt_cmp ?_)
  | ((with_reducible show Wt _ _ _ _ _ _); refine wt_val ?_)
  | ((with_reducible show Ww _ _ (.BoolOp .And [_] _) _ _ _); refine ww_and1 ?_)
  | ((with_reducible show Ww _ _ (.BoolOp .Or [_] _) _ _ _); refine ww_or1 ?_)
  | ((with_reducible show Ww _ _ (.BoolOp .And _ _) _ _ _); refine ww_and ?_)
  | ((with_reducible show Ww _ _ (.BoolOp .Or _ _) _ _ _); refine ww_or ?_)
  | ((with_reducible show Ws _ _ [] _ _ _); refine ws_nil ?_)
  | ((with_reducible show Ws _ _ (_ :: _) _ _ _); refine ws_cons ?_)
  | ((with_reducible show Ws1 _ _ (.Return (some _) _) _ _ _); refine ws_ret ?_)
  | ((with_reducible show Ws1 _ _ (.If _ _ _ _) _ _ _); refine ws_if ?_)
  | ((with_reducible show Ws1 _ _ (.Expr _ _) _ _ _); refine ws_expr ?_)
  | ((with_reducible show Ws1 _ _ (.Assign [.Name _ _] (.ListComp _ _ _ _) _) _ _ _); fail)
  | ((with_reducible show Ws1 _ _ (.Assign [.Name _ _] _ _) _ _ _); refine ws_setA (by walk_at "fam") (by walk_at "at") ?_)
  | ((with_reducible show Ws1 _ _ (.Assign [.Attribute _ _ _] _ _) _ _ _); refine ws_fld (by walk_at "fam") ?_)
  | ((with_reducible show Ws1 _ _ (.Assign [_] _ _) _ _ _); refine ws_asg ?_)
  | ((with_reducible show Wts _ _ [] _ _ _); refine wts_nil ?_)
  | ((with_reducible show Wts _ _ [_] _ _ _); refine wts_one ?_)
  | ((with_reducible show Wg _ _ _ (.Name _ _) _ _ _ _); refine wg_nameA (by walk_at "fam") (by walk_at "at") ?_)
  | ((with_reducible show Wg _ _ _ (.Tuple _ _ _) _ _ _ _); refine wg_tup (by walk_at "fam") ?_)
  | ((with_reducible show Wg _ _ _ (.Subscript _ _ _) _ _ _ _); refine wg_sub ?_)
  | refine wgs_nil ?_ | refine wgs_cons ?_)
local macro_rules | `(tactic| walk_at "w") => `(tactic| repeat walk_at "e")
structure Svs (P : Program) (w : World) (K : PySem.W.Frag) (mg : Str → Option Value) (base : Heap) (CF CL CO CT : Addr) : Prop where
  tF : Cam P w K mg base 1 CF "takes" sAtk
  tL : Cam P w K mg base 1 CL "takes" sAtk
  tO : Cam P w K mg base 1 CO "takes" (sOtk w CO)
  tT : Cam P w K mg base 1 CT "takes" (sTtk CT)
  rF : Cam P w K mg base 1 CF "rows" sArw
  rL : Cam P w K mg base 1 CL "rows" sArw
  rO : Cam P w K mg base 1 CO "rows" (sOrw w CO)
  rT : Cam P w K mg base 1 CT "rows" (sTrw CT)
  cF : Cam P w K mg base 2 CF "copy" (sAcp CF)
  cL : Cam P w K mg base 2 CL "copy" (sAcp CL)
  cO : Cam P w K mg base 3 CO "copy" (sOcp w CO)
  cT : Cam P w K mg base 3 CT "copy" (sTcp CT)
/-- behind a taking -/
def aft (w : World) (kd : Str) (j : Nat) (hs : List Ltr) (p : Ltr) (m : Mm) : Mm :=
  if hearR kd hs p = "heard" then (if kd = "once" then m.set j (.dn w (pairsM (hs ++ [p]))) else if kd = "row" then m.set j (.dct (greatM (hs ++ [p]))) else m) else m
def cpy (w : World) (CF CL CO CT : Addr) (kd : Str) (n : Nat) (hs : List Ltr) : Mm :=
  if kd = "plain" then [.ins CF []] else if kd = "loose" then [.ins CL []] else if kd = "once" then [.ins CO [("pairs", .r (n + 2))], .dn w [], .dn w (pairsM hs)] else [.ins CT [("greatest", .r (n + 2))], .dct [], .dct (greatM hs)]
theorem sv_plain {w : World} {CF CL CO CT : Addr} {m : Mm} {i j : Nat} {hs : List Ltr} (h : SvAt w CF CL CO CT m "plain" i j hs) : m[i]? = some (.ins CF []) := by
  rcases h with h | h | h | h
  · exact h.2
  · exact absurd h.1 (by decide)
  · exact absurd h.1 (by decide)
  · exact absurd h.1 (by decide)
theorem sv_loose {w : World} {CF CL CO CT : Addr} {m : Mm} {i j : Nat} {hs : List Ltr} (h : SvAt w CF CL CO CT m "loose" i j hs) : m[i]? = some (.ins CL []) := by
  rcases h with h | h | h | h
  · exact absurd h.1 (by decide)
  · exact h.2
  · exact absurd h.1 (by decide)
  · exact absurd h.1 (by decide)
theorem sv_once {w : World} {CF CL CO CT : Addr} {m : Mm} {i j : Nat} {hs : List Ltr} (h : SvAt w CF CL CO CT m "once" i j hs) : m[i]? = some (.ins CO [("pairs", .r j)]) ∧ m[j]? = some (.dn w (pairsM hs)) := by
  rcases h with h | h | h | h
  · exact absurd h.1 (by decide)
  · exact absurd h.1 (by decide)
  · exact h.2
  · exact absurd h.1 (by decide)
theorem sv_row {w : World} {CF CL CO CT : Addr} {m : Mm} {i j : Nat} {hs : List Ltr} (h : SvAt w CF CL CO CT m "row" i j hs) : m[i]? = some (.ins CT [("greatest", .r j)]) ∧ m[j]? = some (.dct (greatM hs)) := by
  rcases h with h | h | h | h
  · exact absurd h.1 (by decide)
  · exact absurd h.1 (by decide)
  · exact absurd h.1 (by decide)
  · exact h.2
section
variable {ι : Type} {X : ι → Cx} {P : Program} {w : World} {K : PySem.W.Frag} {mg : Str → Option Value} {base : Heap} {N : List Str} {sc : Scope} {fv : Str → Bool} {k : Nat} {ρ : Ro} {m : Mm} {Q : QV} {CF CL CO CT : Addr} {pos : Pos}
theorem we_takes (F : Fam X P w K mg base N sc fv k) (D : Svs P w K mg base CF CL CO CT) (hk : 1 ≤ k) {kd : Str} (ks : Ks kd) {i j : Nat} {hs : List Ltr} {p : Ltr} {s1 s2 a1 a2 : Str} {q1 q2 q3 q4 q5 apos : Pos} (hl : hs.length ≤ 1000) (p0 : 0 ≤ p.2)
    (h : We X K (.Subscript (.Name s1 q1) (.Name s2 q2) q3) ρ m fun x m1 => x = .r i ∧ SvAt w CF CL CO CT m1 kd i j hs ∧ Wr X K [.Name a1 q4, .Name a2 q5] ρ m1 fun xs m2 => xs = [.d (.int p.1), .d (.int p.2)] ∧ SvAt w CF CL CO CT m2 kd i j hs ∧ Q (.d (.str (hearR kd hs p))) (aft w kd j hs p m2))
    (he : ∀ env : Env, starEach [.Name a1 q4, .Name a2 q5] env = (false, eval (.Name a1 q4) env) :: starEach [.Name a2 q5] env := by intro _; rfl) (hpl : ∀ env : Env, (backTo pos (starEach [.Name a2 q5] env)).any (·.1) = false := by intro _; rfl)
    {pl : Env → Sem Bool}
    (ht : ∀ env : Env, eval (.Call (.Attribute (.Subscript (.Name s1 q1) (.Name s2 q2) q3) "takes" apos) [.Name a1 q4, .Name a2 q5] [] pos) env = (do
      let ov ← eval (.Subscript (.Name s1 q1) (.Name s2 q2) q3) env
      standAt apos.atName
      let (f, first) ← holding [ov] (getMethod ov "takes" (pl env))
      callWith pos f first (backTo pos (starEach [.Name a1 q4, .Name a2 q5] env)) (backToKw pos (keywordEach [] env))) := by intro _; rfl) :
    We X K (.Call (.Attribute (.Subscript (.Name s1 q1) (.Name s2 q2) q3) "takes" apos) [.Name a1 q4, .Name a2 q5] [] pos) ρ m Q := by
  rcases ks.is with rfl | rfl | rfl | rfl
  · refine we_meth F D.tF hk (h.mono fun x m1 ⟨ex, sv, wr⟩ => ⟨i, _, ex, sv_plain sv, rfl, wr.mono fun xs m2 ⟨exs, sv2, q⟩ => ?_⟩) he hpl ht
    subst exs
    exact ⟨i, _, _, rfl, q⟩
  · refine we_meth F D.tL hk (h.mono fun x m1 ⟨ex, sv, wr⟩ => ⟨i, _, ex, sv_loose sv, rfl, wr.mono fun xs m2 ⟨exs, sv2, q⟩ => ?_⟩) he hpl ht
    subst exs
    exact ⟨i, _, _, rfl, q⟩
  · refine we_meth F D.tO hk (h.mono fun x m1 ⟨ex, sv, wr⟩ => ⟨i, _, ex, (sv_once sv).1, rfl, wr.mono fun xs m2 ⟨exs, sv2, q⟩ => ?_⟩) he hpl ht
    subst exs
    refine ⟨i, j, p, hs, rfl, (sv_once sv2).1, (sv_once sv2).2, hl, fun hp => ?_, fun hp => ?_⟩
    · have e : hearR "once" hs p = "again" := by unfold hearR; rw [if_pos rfl, if_pos hp]
      unfold aft at q
      rw [e] at q
      rw [if_neg (by decide)] at q
      exact q
    · have e : hearR "once" hs p = "heard" := by unfold hearR; rw [if_pos rfl, if_neg hp]
      unfold aft at q
      rw [e, if_pos rfl, if_pos rfl] at q
      exact q
  · refine we_meth F D.tT hk (h.mono fun x m1 ⟨ex, sv, wr⟩ => ⟨i, _, ex, (sv_row sv).1, rfl, wr.mono fun xs m2 ⟨exs, sv2, q⟩ => ?_⟩) he hpl ht
    subst exs
    refine ⟨i, j, p, hs, rfl, (sv_row sv2).1, (sv_row sv2).2, hl, p0, ?_⟩
    by_cases hp : p.2 ≤ (aget (greatT hs) p.1).getD (-1)
    · have e : hearR "row" hs p = "late" := by unfold hearR; rw [if_neg (by decide), if_pos rfl, if_pos hp]
      rw [if_pos hp]
      unfold aft at q
      rw [e, if_neg (by decide)] at q
      exact q
    · have e : hearR "row" hs p = "heard" := by unfold hearR; rw [if_neg (by decide), if_pos rfl, if_neg hp]
      rw [if_neg hp]
      unfold aft at q
      rw [e, if_pos rfl, if_neg (by decide), if_pos rfl] at q
      exact q
theorem we_rows (F : Fam X P w K mg base N sc fv k) (D : Svs P w K mg base CF CL CO CT) (hk : 1 ≤ k) {kd : Str} (ks : Ks kd) {i j : Nat} {hs : List Ltr} {s1 s2 : Str} {q1 q2 q3 apos : Pos} (hl : hs.length < 64) (ib : inB hs)
    (h : We X K (.Subscript (.Name s1 q1) (.Name s2 q2) q3) ρ m fun x m1 => x = .r i ∧ SvAt w CF CL CO CT m1 kd i j hs ∧ ((kd = "plain" ∨ kd = "loose") → Q (.d (.tuple [])) m1) ∧ (kd = "once" → ∀ us : List (List Int), us.Perm (hs.map pN) → us.Pairwise (fun s t => TS.code 1000000 s ≤ TS.code 1000000 t) → Q (.d (.tuple (us.map fun ns => .tuple (ns.map .int)))) m1) ∧ (kd = "row" → Q (.d (.tuple (rowT hs))) m1))
    {pl : Env → Sem Bool}
    (ht : ∀ env : Env, eval (.Call (.Attribute (.Subscript (.Name s1 q1) (.Name s2 q2) q3) "rows" apos) [] [] pos) env = (do
      let ov ← eval (.Subscript (.Name s1 q1) (.Name s2 q2) q3) env
      standAt apos.atName
      let (f, first) ← holding [ov] (getMethod ov "rows" (pl env))
      callWith pos f first (backTo pos (starEach [] env)) (backToKw pos (keywordEach [] env))) := by intro _; rfl) :
    We X K (.Call (.Attribute (.Subscript (.Name s1 q1) (.Name s2 q2) q3) "rows" apos) [] [] pos) ρ m Q := by
  rcases ks.is with rfl | rfl | rfl | rfl
  · exact we_meth0 F D.rF hk (h.mono fun x m1 ⟨ex, sv, h1, h2, h3⟩ => ⟨i, _, ex, sv_plain sv, rfl, i, rfl, h1 (.inl rfl)⟩) ht
  · exact we_meth0 F D.rL hk (h.mono fun x m1 ⟨ex, sv, h1, h2, h3⟩ => ⟨i, _, ex, sv_loose sv, rfl, i, rfl, h1 (.inr rfl)⟩) ht
  · exact we_meth0 F D.rO hk (h.mono fun x m1 ⟨ex, sv, h1, h2, h3⟩ => ⟨i, _, ex, (sv_once sv).1, rfl, i, j, hs, rfl, (sv_once sv).1, (sv_once sv).2, hl, ib, h2 rfl⟩) ht
  · exact we_meth0 F D.rT hk (h.mono fun x m1 ⟨ex, sv, h1, h2, h3⟩ => ⟨i, _, ex, (sv_row sv).1, rfl, i, j, hs, rfl, (sv_row sv).1, (sv_row sv).2, hl, h3 rfl⟩) ht
theorem we_copy (F : Fam X P w K mg base N sc fv k) (D : Svs P w K mg base CF CL CO CT) (hk : 3 ≤ k) {kd : Str} (ks : Ks kd) {i j : Nat} {hs : List Ltr} {s1 s2 : Str} {q1 q2 q3 apos : Pos} (hl : hs.length ≤ 1000) (nd : kd = "once" → hs.Nodup)
    (h : We X K (.Subscript (.Name s1 q1) (.Name s2 q2) q3) ρ m fun x m1 => x = .r i ∧ SvAt w CF CL CO CT m1 kd i j hs ∧ Q (.r m1.length) (m1 ++ cpy w CF CL CO CT kd m1.length hs))
    {pl : Env → Sem Bool}
    (ht : ∀ env : Env, eval (.Call (.Attribute (.Subscript (.Name s1 q1) (.Name s2 q2) q3) "copy" apos) [] [] pos) env = (do
      let ov ← eval (.Subscript (.Name s1 q1) (.Name s2 q2) q3) env
      standAt apos.atName
      let (f, first) ← holding [ov] (getMethod ov "copy" (pl env))
      callWith pos f first (backTo pos (starEach [] env)) (backToKw pos (keywordEach [] env))) := by intro _; rfl) :
    We X K (.Call (.Attribute (.Subscript (.Name s1 q1) (.Name s2 q2) q3) "copy" apos) [] [] pos) ρ m Q := by
  rcases ks.is with rfl | rfl | rfl | rfl
  · exact we_meth0 F D.cF (by omega) (h.mono fun x m1 ⟨ex, sv, q⟩ => ⟨i, _, ex, sv_plain sv, rfl, i, rfl, q⟩) ht
  · exact we_meth0 F D.cL (by omega) (h.mono fun x m1 ⟨ex, sv, q⟩ => ⟨i, _, ex, sv_loose sv, rfl, i, rfl, q⟩) ht
  · exact we_meth0 F D.cO hk (h.mono fun x m1 ⟨ex, sv, q⟩ => ⟨i, _, ex, (sv_once sv).1, rfl, i, j, hs, rfl, (sv_once sv).1, (sv_once sv).2, hl, nd rfl, q⟩) ht
  · exact we_meth0 F D.cT hk (h.mono fun x m1 ⟨ex, sv, q⟩ => ⟨i, _, ex, (sv_row sv).1, rfl, i, j, hs, rfl, (sv_row sv).1, (sv_row sv).2, q⟩) ht
/-! isinstance of an instance, of an own class -/
structure Ow (K : PySem.W.Frag) (C : Addr) : Prop where
  cl : Cls K C
  ha : PySem.W.findIn K (.ref C) "__class__" = some (some (.builtin "object.__class__"))
  hn : PySem.W.specialIn K (.builtin "object.__class__") "__get__" = some (some (.builtin "getset_descriptor.__get__"))
  ht : PySem.W.takesIn K (.builtin "object.__class__") = some true
  hm : PySem.W.mroIn K C (.type "object") = some true
theorem c_isO (F : Fam X P w K mg base N sc fv k) {C D : Addr} {i : Nat} {fs : List (Str × MV)} {bb : Bool} (O : Ow K C) (hi : m[i]? = some (.ins C fs)) (hb : PySem.W.kitOne K (.ref C) (.ref D) = some bb) (q : Q (.d (.bool bb)) m) : CaW X K (.builtin "isinstance") [.r i, .x D] m Q := fun π G H R vs hk rs wv => by
  obtain ⟨v1, v2, rfl, r1, r2⟩ := rvs2 rs
  obtain ⟨a, ha, rfl⟩ := r1
  obtain ⟨a', u, h1, h2, dx, fs', eu, rf⟩ := hk.obj i _ hi
  rw [ha] at h1; cases h1
  subst eu
  obtain rfl := (show v2 = .ref D from r2)
  exact ⟨rIsi K, fun j => F.cK j ▸ call_isi, .ref a, .ref D, .ref C, .ref D, bb, rfl, .own D, .base (.ins h2 O.cl O.ha O.hn O.ht O.hm), hb, wv _ (.d (.bool bb)) π G H m Xt.refl hk (Da.bl bb) q⟩
theorem b_isO (F : Fam X P w K mg base N sc fv k) (B : Bt mg) {D : Addr} {nm : Str} {e : Expr} {p p2 : Pos} (hD : mg nm = some (.ref D)) (h : We X K e ρ m fun x m1 => ∃ i C fs bb, x = .r i ∧ m1[i]? = some (.ins C fs) ∧ Ow K C ∧ PySem.W.kitOne K (.ref C) (.ref D) = some bb ∧ Q (.d (.bool bb)) m1)
    (hg : sc.names.lookup ("isinstance" : Str) = some .globalImplicit := by rfl) (hgT : sc.names.lookup nm = some .globalImplicit := by rfl) (hd : (nm == ("__debug__" : Str)) = false := by decide)
    (he : ∀ env : Env, starEach [e, .Name nm p2] env = (false, eval e env) :: starEach [.Name nm p2] env := by intro _; rfl) (hpl : ∀ env : Env, (backTo pos (starEach [.Name nm p2] env)).any (·.1) = false := by intro _; rfl) (he2 : ∀ env : Env, starEach [.Name nm p2] env = (false, eval (.Name nm p2) env) :: starEach [] env := by intro _; rfl) :
    We X K (.Call (.Name "isinstance" p) [e, .Name nm p2] [] pos) ρ m Q := we_callB F (wr_cons (h.mono fun x m1 ⟨i, C, fs, bb, ex, hi, O, hb, q⟩ => wr_cons (we_cls F hD (wr_nil (by subst ex; exact c_isO F O hi hb q)) hgT hd) he2) he) B.isi bo_isi hg (by decide) (by decide) he hpl
end

end Wn
set_option Elab.async false
set_option linter.all false
set_option maxRecDepth 100000
set_option maxHeartbeats 2000000
set_option autoImplicit false
set_option pp.maxSteps 600
namespace Wn
open PySem L2
local macro_rules | `(tactic| walk_at "fam") => `(tactic| first | assumption | exact Fam.blk (by assumption) _ | exact Fam.blk (Fam.blk (by assumption) _) _)
local macro_rules | `(tactic| walk_at "at") => `(tactic| with_reducible first | exact At.z | exact At.s At.z | exact At.s (At.s At.z) | exact At.s (At.s (At.s At.z)) | exact At.s (At.s (At.s (At.s At.z))) | exact At.s (At.s (At.s (At.s (At.s At.z)))) | exact At.s (At.s (At.s (At.s (At.s (At.s At.z))))) | exact At.s (At.s (At.s (At.s (At.s (At.s (At.s At.z)))))) | exact At.s (At.s (At.s (At.s (At.s (At.s (At.s (At.s At.z))))))) | exact At.s (At.s (At.s (At.s (At.s (At.s (At.s (At.s (At.s At.z)))))))) | exact At.s (At.s (At.s (At.s (At.s (At.s (At.s (At.s (At.s (At.s At.z))))))))) | exact At.s (At.s (At.s (At.s (At.s (At.s (At.s (At.s (At.s (At.s (At.s At.z)))))))))) | exact At.s (At.s (At.s (At.s (At.s (At.s (At.s (At.s (At.s (At.s (At.s (At.s At.z))))))))))) | exact At.s (At.s (At.s (At.s (At.s (At.s (At.s (At.s (At.s (At.s (At.s (At.s (At.s At.z)))))))))))) | exact At.s (At.s (At.s (At.s (At.s (At.s (At.s (At.s (At.s (At.s (At.s (At.s (At.s (At.s At.z))))))))))))) | exact At.s (At.s (At.s (At.s (At.s (At.s (At.s (At.s (At.s (At.s (At.s (At.s (At.s (At.s (At.s At.z)))))))))))))) | exact At.s (At.s (At.s (At.s (At.s (At.s (At.s (At.s (At.s (At.s (At.s (At.s (At.s (At.s (At.s (At.s At.z))))))))))))))) | exact At.s (At.s (At.s (At.s (At.s (At.s (At.s (At.s (At.s (At.s (At.s (At.s (At.s (At.s (At.s (At.s (At.s At.z)))))))))))))))) | exact At.s (At.s (At.s (At.s (At.s (At.s (At.s (At.s (At.s (At.s (At.s (At.s (At.s (At.s (At.s (At.s (At.s (At.s At.z))))))))))))))))) | exact At.s (At.s (At.s (At.s (At.s (At.s (At.s (At.s (At.s (At.s (At.s (At.s (At.s (At.s (At.s (At.s (At.s (At.s (At.s At.z)))))))))))))))))) | exact At.s (At.s (At.s (At.s (At.s (At.s (At.s (At.s (At.s (At.s (At.s (At.s (At.s (At.s (At.s (At.s (At.s (At.s (At.s (At.s At.z))))))))))))))))))) | exact At.s (At.s (At.s (At.s (At.s (At.s (At.s (At.s (At.s (At.s (At.s (At.s (At.s (At.s (At.s (At.s (At.s (At.s (At.s (At.s (At.s At.z)))))))))))))))))))))
local macro_rules | `(tactic| walk_at "call") => `(tactic| first
  | ((with_reducible show We _ _ (.Call (.Name "len" _) _ _ _) _ _ _); refine b_lenU (by walk_at "fam") (by assumption) ?_)
  | ((with_reducible show We _ _ (.Call (.Name "isinstance" _) [_, .Name "int" _] _ _) _ _ _); refine b_isiInt (by walk_at "fam") (by assumption) ?_)
  | ((with_reducible show We _ _ (.Call (.Name "isinstance" _) [_, .Name "bool" _] _ _) _ _ _); refine b_isiBool (by walk_at "fam") (by assumption) ?_)
  | ((with_reducible show We _ _ (.Call (.Name "isinstance" _) [_, .Name "tuple" _] _ _) _ _ _); refine b_isiTup (by walk_at "fam") (by assumption) ?_)
  | ((with_reducible show We _ _ (.Call (.Name "isinstance" _) [_, .Name "str" _] _ _) _ _ _); refine b_isi (T := "str") (n := "str") (by walk_at "fam") (by assumption) (Bx.str (by assumption)) bo_str ?_)
  | ((with_reducible show We _ _ (.Call (.Name "max" _) [_, _] _ _) _ _ _); refine b_max2 (by walk_at "fam") (Bx.max (by assumption)) ?_)
  | ((with_reducible show We _ _ (.Call (.Name "dict" _) _ _ _) _ _ _); refine b_dict (by walk_at "fam") (Bx.dict (by assumption)) ?_)
  | ((with_reducible show We _ _ (.Call (.Name "all" _) _ _ _) _ _ _); refine b_all (by walk_at "fam") (Bx.all (by assumption)) ?_)
  | ((with_reducible show We _ _ (.Call (.Name "abs" _) _ _ _) _ _ _); refine b_abs (by walk_at "fam") (by assumption) ?_)
  | ((with_reducible show We _ _ (.Call (.Name "int" _) _ _ _) _ _ _); refine b_intB (by walk_at "fam") (by assumption) ?_)
  | ((with_reducible show We _ _ (.Call (.Name "tuple" _) _ _ _) _ _ _); refine b_tup (by walk_at "fam") (by assumption) ?_)
  | ((with_reducible show We _ _ (.Call (.Name "list" _) [.Call (.Name "range" _) _ _ _] _ _) _ _ _); refine we_listRg (by walk_at "fam") (Bt.list (by assumption)) (Bt.range (by assumption)) ?_)
  | ((with_reducible show We _ _ (.Call (.Name "list" _) _ _ _) _ _ _); refine b_lst (by walk_at "fam") (by assumption) ?_)
  | ((with_reducible show We _ _ (.Call (.Name "min" _) [_, _] _ _) _ _ _); refine b_min2 (by walk_at "fam") (by assumption) ?_)
  | ((with_reducible show We _ _ (.Call (.Name "min" _) [_] [_] _) _ _ _); refine we_minDD (by walk_at "fam") (Bt.min (by assumption)) ?_)
  | ((with_reducible show We _ _ (.Call (.Name "min" _) [_] [] _) _ _ _); refine b_min1 (by walk_at "fam") (by assumption) ?_)
  | ((with_reducible show We _ _ (.Call (.Name "sorted" _) _ _ _) _ _ _); refine b_sorted (by walk_at "fam") (by assumption) ?_)
  | ((with_reducible show We _ _ (.Call (.Attribute _ "append" _) _ _ _) _ _ _); refine we_append (by walk_at "fam") ?_)
  | ((with_reducible show We _ _ (.Call (.Attribute _ "insert" _) [_, _] _ _) _ _ _); refine we_insert (by walk_at "fam") ?_)
  | ((with_reducible show We _ _ (.Call (.Name "max" _) [_] _ _) _ _ _); refine b_maxI (by walk_at "fam") (Bx.max (by assumption)) ?_)
  | ((with_reducible show We _ _ (.Call (.Attribute _ "join" _) [_] _ _) _ _ _); refine we_joinS (by walk_at "fam") ?_)
  | ((with_reducible show We _ _ (.Call (.Attribute _ "setdefault" _) [_, _] _ _) _ _ _); refine we_dsetd (by walk_at "fam") ?_)
  | ((with_reducible show We _ _ (.Call (.Attribute _ "partition" _) [_] _ _) _ _ _); refine we_part (by walk_at "fam") ?_)
  | ((with_reducible show We _ _ (.Call (.Attribute _ "split" _) [_] _ _) _ _ _); refine we_splitS (by walk_at "fam") ?_)
  | ((with_reducible show We _ _ (.Call (.Name "str" _) [_] _ _) _ _ _); refine b_str (by walk_at "fam") (Bx.str (by assumption)) ?_)
  | ((with_reducible show We _ _ (.Call (.Name "any" _) [_] _ _) _ _ _); refine b_any (by walk_at "fam") (by assumption) ?_)
  | ((with_reducible show We _ _ (.Call (.Attribute _ "extend" _) _ _ _) _ _ _); refine we_extend (by walk_at "fam") ?_)
  | ((with_reducible show We _ _ (.Call (.Attribute _ "pop" _) [_, _] _ _) _ _ _); refine we_dpop (by walk_at "fam") ?_)
  | ((with_reducible show We _ _ (.Call (.Name _ _) _ _ _) _ _ _); refine we_call (by walk_at "fam") (by assumption) (by decide) ?_)
  | ((with_reducible show We _ _ (.Call (.Name _ _) [] _ _) _ _ _); refine we_make0 (by walk_at "fam") (by assumption) (by decide) ?_)
  | ((with_reducible show We _ _ (.Call (.Name _ _) _ _ _) _ _ _); refine we_make (by walk_at "fam") (by assumption) (by decide) ?_)
  | ((with_reducible show We _ _ (.Call (.Attribute _ _ _) (_ :: _) _ _) _ _ _); refine we_meth (by walk_at "fam") (by assumption) (by decide) ?_)
  | ((with_reducible show We _ _ (.Call (.Attribute _ _ _) [] _ _) _ _ _); refine we_meth0 (by walk_at "fam") (by assumption) (by decide) ?_))
local macro_rules | `(tactic| walk_at "e") => `(tactic| first
  | ((with_reducible show We _ _ (.Name _ _) _ _ _); first | refine we_varA (by walk_at "fam") (by walk_at "at") (by rfl) ?_ | refine we_gint (by walk_at "fam") (by assumption) ?_ | refine we_gstr (by walk_at "fam") (by assumption) ?_ | refine we_gtup (by walk_at "fam") (by assumption) ?_)
  | ((with_reducible show We _ _ (.Constant _ _ _) _ _ _); first | refine we_int ?_ | refine we_bl ?_ | refine we_non ?_ | refine we_str ?_)
  | ((with_reducible show We _ _ (.BinOp _ _ _ _) _ _ _); refine we_bin ?_)
  | ((with_reducible show We _ _ (.Compare _ [_] _ _) _ _ _); refine we_cmp ?_)
  | ((with_reducible show We _ _ (.Compare _ [_, _] _ _) _ _ _); refine we_chain ?_)
  | ((with_reducible show We _ _ (.BoolOp _ [_] _) _ _ _); refine we_one ?_)
  | ((with_reducible show We _ _ (.BoolOp .And _ _) _ _ _); refine we_and ?_)
  | ((with_reducible show We _ _ (.BoolOp .Or _ _) _ _ _); refine we_or ?_)
  | ((with_reducible show We _ _ (.UnaryOp .Not _ _) _ _ _); refine we_not ?_)
  | ((with_reducible show We _ _ (.UnaryOp .USub _ _) _ _ _); refine we_negI ?_)
  | ((with_reducible show We _ _ (.Dict [] [] _) _ _ _); refine we_dnew ?_)
  | ((with_reducible show We _ _ (.IfExp _ _ _ _) _ _ _); refine we_ifExp ?_)
  | ((with_reducible show We _ _ (.Tuple _ _ _) _ _ _); refine we_tup ?_)
  | ((with_reducible show We _ _ (.List _ _) _ _ _); refine we_lst ?_)
  | ((with_reducible show We _ _ (.Subscript _ (.Slice _ _ _ _) _) _ _ _); refine we_sliceTup (by walk_at "fam") ?_)
  | ((with_reducible show We _ _ (.Subscript _ _ _) _ _ _); refine we_ix ?_)
  | ((with_reducible show We _ _ (.Attribute _ _ _) _ _ _); refine we_fld (by walk_at "fam") ?_)
  | walk_at "call"
  | ((with_reducible show Wo _ _ none _ _ _); refine wo_none ?_)
  | ((with_reducible show Wo _ _ (some _) _ _ _); refine wo_some ?_)
  | ((with_reducible show Wr _ _ [] _ _ _); refine wr_nil ?_)
  | ((with_reducible show Wr _ _ (_ :: _) _ _ _); refine wr_cons ?_)
  | ((with_reducible show Wt _ _ (.UnaryOp .Not _ _) _ _ _); refine wt_not ?_)
  | ((with_reducible show Wt _ _ (.BoolOp .And _ _) _ _ _); refine wt_w (ww_and ?_))
  | ((with_reducible show Wt _ _ (.BoolOp .Or _ _) _ _ _); refine wt_w (ww_or ?_))
  | ((with_reducible show Wt _ _ (.Compare _ [_] _ _) _ _ _); refine wt_cmp ?_)
  | ((with_reducible show Wt _ _ _ _ _ _); refine wt_val ?_)
  | ((with_reducible show Ww _ _ (.BoolOp .And [_] _) _ _ _); refine ww_and1 ?_)
  | ((with_reducible show Ww _ _ (.BoolOp .Or [_] _) _ _ _); refine ww_or1 ?_)
  | ((with_reducible show Ww _ _ (.BoolOp .And _ _) _ _ _); refine ww_and ?_)
  | ((with_reducible show Ww _ _ (.BoolOp .Or _ _) _ _ _); refine ww_or ?_)
  | ((with_reducible show Ws _ _ [] _ _ _); refine ws_nil ?_)
  | ((with_reducible show Ws _ _ (_ :: _) _ _ _); refine ws_cons ?_)
  | ((with_reducible show Ws1 _ _ (.Return (some _) _) _ _ _); refine ws_ret ?_)
  | ((with_reducible show Ws1 _ _ (.If _ _ _ _) _ _ _); refine ws_if ?_)
  | ((with_reducible show Ws1 _ _ (.Expr _ _) _ _ _); refine ws_expr ?_)
  | ((with_reducible show Ws1 _ _ (.Assign [.Name _ _] (.ListComp _ _ _ _) _) _ _ _); fail)
  | ((with_reducible show Ws1 _ _ (.Assign [.Name _ _] _ _) _ _ _); refine ws_setA (by walk_at "fam") (by walk_at "at") ?_)
  | ((with_reducible show Ws1 _ _ (.Assign [.Attribute _ _ _] _ _) _ _ _); refine ws_fld (by walk_at "fam") ?_)
  | ((with_reducible show Ws1 _ _ (.Assign [_] _ _) _ _ _); refine ws_asg ?_)
  | ((with_reducible show Wts _ _ [] _ _ _); refine wts_nil ?_)
  | ((with_reducible show Wts _ _ [_] _ _ _); refine wts_one ?_)
  | ((with_reducible show Wg _ _ _ (.Name _ _) _ _ _ _); refine wg_nameA (by walk_at "fam") (by walk_at "at") ?_)
  | ((with_reducible show Wg _ _ _ (.Tuple _ _ _) _ _ _ _); refine wg_tup (by walk_at "fam") ?_)
  | ((with_reducible show Wg _ _ _ (.Subscript _ _ _) _ _ _ _); refine wg_sub ?_)
  | refine wgs_nil ?_ | refine wgs_cons ?_)
local macro_rules | `(tactic| walk_at "w") => `(tactic| repeat walk_at "e")
structure Ent where
  kd : Str
  i : Nat
  j : Nat
  h : Nat
  hs : List Ltr
structure EntOk (w : World) (CF CL CO CT : Addr) (m : Mm) (T : Nat) (e : Ent) : Prop where
  ks : Ks e.kd
  sv : SvAt w CF CL CO CT m e.kd e.i e.j e.hs
  hh : m[e.h]? = some (.lst (hsM e.hs))
  gt : e.kd = "row" → GT e.hs
  nd : e.kd = "once" → e.hs.Nodup
  ib : inB e.hs
  lt : ∀ p ∈ e.hs, p.1 < 16
  ln : e.hs.length ≤ T
structure Core (w : World) (CF CL CO CT : Addr) (m : Mm) (n T : Nat) (wh : Int) (cs : List Int) (si hi : Nat) (es : List Ent) : Prop where
  dk : Dk m n wh cs
  en : ∀ e ∈ es, EntOk w CF CL CO CT m T e
  o1 : 2 < si
  o2 : si < hi
  oh : ∀ e ∈ es, si < e.h ∧ e.h ≠ hi
  nh : (es.map (·.h)).Nodup
  nj : (es.map (·.j)).Nodup
  jl : ∀ e ∈ es, e.j < m.length
section
variable {w : World} {CF CL CO CT : Addr} {m : Mm} {n T : Nat} {wh : Int} {cs : List Int} {si hi : Nat} {es : List Ent} {kd : Str} {i j : Nat} {hs : List Ltr}
theorem SvAt.app (h : SvAt w CF CL CO CT m kd i j hs) (t : Mm) : SvAt w CF CL CO CT (m ++ t) kd i j hs := by
  rcases h with h | h | h | h
  · exact .inl ⟨h.1, app_get h.2⟩
  · exact .inr (.inl ⟨h.1, app_get h.2⟩)
  · exact .inr (.inr (.inl ⟨h.1, app_get h.2.1, app_get h.2.2⟩))
  · exact .inr (.inr (.inr ⟨h.1, app_get h.2.1, app_get h.2.2⟩))
theorem SvAt.setL (h : SvAt w CF CL CO CT m kd i j hs) {x : Nat} {xs : List MV} (hx : m[x]? = some (.lst xs)) (o : MO) : SvAt w CF CL CO CT (m.set x o) kd i j hs := by
  have key : ∀ {y : Nat} {u : MO}, m[y]? = some u → (∀ xs, u ≠ .lst xs) → (m.set x o)[y]? = some u := fun {y u} hy hu => by
    rw [List.getElem?_set_ne]
    · exact hy
    · rintro rfl
      rw [hx] at hy; cases hy
      exact hu _ rfl
  rcases h with h | h | h | h
  · exact .inl ⟨h.1, key h.2 (fun _ z => by cases z)⟩
  · exact .inr (.inl ⟨h.1, key h.2 (fun _ z => by cases z)⟩)
  · exact .inr (.inr (.inl ⟨h.1, key h.2.1 (fun _ z => by cases z), key h.2.2 (fun _ z => by cases z)⟩))
  · exact .inr (.inr (.inr ⟨h.1, key h.2.1 (fun _ z => by cases z), key h.2.2 (fun _ z => by cases z)⟩))
theorem SvAt.setD (h : SvAt w CF CL CO CT m kd i j hs) {x : Nat} {u : MO} (hx : m[x]? = some u) (hu : ∀ C fs, u ≠ .ins C fs) (hj : j ≠ x) (o : MO) : SvAt w CF CL CO CT (m.set x o) kd i j hs := by
  have key : ∀ {C fs}, m[i]? = some (.ins C fs) → (m.set x o)[i]? = some (.ins C fs) := fun {C fs} hy => by
    rw [List.getElem?_set_ne]
    · exact hy
    · rintro rfl
      rw [hx] at hy; cases hy
      exact hu _ _ rfl
  have k2 : ∀ {u}, m[j]? = some u → (m.set x o)[j]? = some u := fun {u} hy => by rw [List.getElem?_set_ne (fun z => hj z.symm)]; exact hy
  rcases h with h | h | h | h
  · exact .inl ⟨h.1, key h.2⟩
  · exact .inr (.inl ⟨h.1, key h.2⟩)
  · exact .inr (.inr (.inl ⟨h.1, key h.2.1, k2 h.2.2⟩))
  · exact .inr (.inr (.inr ⟨h.1, key h.2.1, k2 h.2.2⟩))
theorem Core.app (h : Core w CF CL CO CT m n T wh cs si hi es) (t : Mm) : Core w CF CL CO CT (m ++ t) n T wh cs si hi es :=
  ⟨h.dk.app t, fun e he => have k := h.en e he; ⟨k.ks, k.sv.app t, app_get k.hh, k.gt, k.nd, k.ib, k.lt, k.ln⟩, h.o1, h.o2, h.oh, h.nh, h.nj, fun e he => by rw [List.length_append]; have := h.jl e he; omega⟩
theorem Core.nx (h : Core w CF CL CO CT m n T wh cs si hi es) : Core w CF CL CO CT (nxm m n wh) (n + 1) T wh cs si hi es :=
  ⟨h.dk.nx, fun e he => have k := h.en e he; ⟨k.ks, k.sv.setL h.dk.b _, by have := h.oh e he; have := h.o1; rw [nxm_get (by omega)]; exact k.hh, k.gt, k.nd, k.ib, k.lt, k.ln⟩, h.o1, h.o2, h.oh, h.nh, h.nj, fun e he => by rw [nxm_len]; exact h.jl e he⟩
theorem Core.setL (h : Core w CF CL CO CT m n T wh cs si hi es) {x : Nat} {xs : List MV} (hx : m[x]? = some (.lst xs)) (h2 : 2 ≤ x) (h3 : ∀ e ∈ es, e.h ≠ x) (o : MO) : Core w CF CL CO CT (m.set x o) n T wh cs si hi es :=
  ⟨h.dk.set o (by omega) (by omega), fun e he => have k := h.en e he; ⟨k.ks, k.sv.setL hx o, by rw [List.getElem?_set_ne (fun z => h3 e he z.symm)]; exact k.hh, k.gt, k.nd, k.ib, k.lt, k.ln⟩, h.o1, h.o2, h.oh, h.nh, h.nj, fun e he => by rw [List.length_set]; exact h.jl e he⟩
theorem Core.more (h : Core w CF CL CO CT m n T wh cs si hi es) {T' : Nat} (hT : T ≤ T') : Core w CF CL CO CT m n T' wh cs si hi es :=
  ⟨h.dk, fun e he => have k := h.en e he; ⟨k.ks, k.sv, k.hh, k.gt, k.nd, k.ib, k.lt, Nat.le_trans k.ln hT⟩, h.o1, h.o2, h.oh, h.nh, h.nj, h.jl⟩
theorem Core.add (h : Core w CF CL CO CT m n T wh cs si hi es) {e : Ent} (k : EntOk w CF CL CO CT m T e) (h1 : si < e.h) (h2 : e.h ≠ hi) (h3 : ∀ e' ∈ es, e'.h ≠ e.h) (h4 : ∀ e' ∈ es, e'.j ≠ e.j) (h5 : e.j < m.length) : Core w CF CL CO CT m n T wh cs si hi (es ++ [e]) := by
  refine ⟨h.dk, fun e' he => ?_, h.o1, h.o2, fun e' he => ?_, ?_, ?_, fun e' he => ?_⟩
  · rcases List.mem_append.mp he with he | he
    · exact h.en e' he
    · rw [List.mem_singleton.mp he]; exact k
  · rcases List.mem_append.mp he with he | he
    · exact h.oh e' he
    · rw [List.mem_singleton.mp he]; exact ⟨h1, h2⟩
  · rw [List.map_append]
    refine List.nodup_append.mpr ⟨h.nh, List.nodup_cons.mpr ⟨by simp, List.nodup_nil⟩, fun a ha b hb => ?_⟩
    obtain ⟨e', he', rfl⟩ := List.mem_map.mp ha
    obtain rfl : b = e.h := by simpa using hb
    exact h3 e' he'
  · rw [List.map_append]
    refine List.nodup_append.mpr ⟨h.nj, List.nodup_cons.mpr ⟨by simp, List.nodup_nil⟩, fun a ha b hb => ?_⟩
    obtain ⟨e', he', rfl⟩ := List.mem_map.mp ha
    obtain rfl : b = e.j := by simpa using hb
    exact h4 e' he'
  · rcases List.mem_append.mp he with he | he
    · exact h.jl e' he
    · rw [List.mem_singleton.mp he]; exact h5
theorem fresh_sv (ks : Ks kd) : ∃ j, m.length ≤ j ∧ j < (m ++ fresh w CF CL CO CT kd m.length).length ∧ SvAt w CF CL CO CT (m ++ fresh w CF CL CO CT kd m.length) kd m.length j [] := by
  rcases ks.is with rfl | rfl | rfl | rfl
  · have e : fresh w CF CL CO CT "plain" m.length = [.ins CF []] := by unfold fresh; rw [if_pos rfl]
    rw [e]; exact ⟨m.length, Nat.le_refl _, by simp, .inl ⟨rfl, by simp⟩⟩
  · have e : fresh w CF CL CO CT "loose" m.length = [.ins CL []] := by unfold fresh; rw [if_neg (by decide), if_pos rfl]
    rw [e]; exact ⟨m.length, Nat.le_refl _, by simp, .inr (.inl ⟨rfl, by simp⟩)⟩
  · have e : fresh w CF CL CO CT "once" m.length = [.ins CO [("pairs", .r (m.length + 1))], .dn w []] := by unfold fresh; rw [if_neg (by decide), if_neg (by decide), if_pos rfl]
    rw [e]; exact ⟨m.length + 1, by omega, by simp, .inr (.inr (.inl ⟨rfl, by simp, by simp; rfl⟩))⟩
  · have e : fresh w CF CL CO CT "row" m.length = [.ins CT [("greatest", .r (m.length + 1))], .dct []] := by unfold fresh; rw [if_neg (by decide), if_neg (by decide), if_neg (by decide)]
    rw [e]; exact ⟨m.length + 1, by omega, by simp, .inr (.inr (.inr ⟨rfl, by simp, by simp; rfl⟩))⟩
theorem cpy_sv (ks : Ks kd) : ∃ j, m.length ≤ j ∧ j < (m ++ cpy w CF CL CO CT kd m.length hs).length ∧ SvAt w CF CL CO CT (m ++ cpy w CF CL CO CT kd m.length hs) kd m.length j hs := by
  rcases ks.is with rfl | rfl | rfl | rfl
  · have e : cpy w CF CL CO CT "plain" m.length hs = [.ins CF []] := by unfold cpy; rw [if_pos rfl]
    rw [e]; exact ⟨m.length, Nat.le_refl _, by simp, .inl ⟨rfl, by simp⟩⟩
  · have e : cpy w CF CL CO CT "loose" m.length hs = [.ins CL []] := by unfold cpy; rw [if_neg (by decide), if_pos rfl]
    rw [e]; exact ⟨m.length, Nat.le_refl _, by simp, .inr (.inl ⟨rfl, by simp⟩)⟩
  · have e : cpy w CF CL CO CT "once" m.length hs = [.ins CO [("pairs", .r (m.length + 2))], .dn w [], .dn w (pairsM hs)] := by unfold cpy; rw [if_neg (by decide), if_neg (by decide), if_pos rfl]
    rw [e]; exact ⟨m.length + 2, by omega, by simp, .inr (.inr (.inl ⟨rfl, by simp, by simp⟩))⟩
  · have e : cpy w CF CL CO CT "row" m.length hs = [.ins CT [("greatest", .r (m.length + 2))], .dct [], .dct (greatM hs)] := by unfold cpy; rw [if_neg (by decide), if_neg (by decide), if_neg (by decide)]
    rw [e]; exact ⟨m.length + 2, by omega, by simp, .inr (.inr (.inr ⟨rfl, by simp, by simp⟩))⟩
theorem nod_ne {α : Type} [DecidableEq α] {es : List Ent} {f : Ent → α} (nd : (es.map f).Nodup) {k k' : Nat} {e e' : Ent} (h : es[k]? = some e) (h' : es[k']? = some e') (hk : k ≠ k') : f e ≠ f e' := fun z => by
  obtain ⟨l, rfl⟩ := List.getElem?_eq_some_iff.mp h
  obtain ⟨l', rfl⟩ := List.getElem?_eq_some_iff.mp h'
  have key := List.pairwise_iff_getElem.mp nd
  rcases Nat.lt_or_gt_of_ne hk with q | q
  · exact key k k' (by rw [List.length_map]; exact l) (by rw [List.length_map]; exact l') q (by rw [List.getElem_map, List.getElem_map]; exact z)
  · exact key k' k (by rw [List.length_map]; exact l') (by rw [List.length_map]; exact l) q (by rw [List.getElem_map, List.getElem_map]; exact z.symm)
theorem aft_p {w : World} {j : Nat} {hs : List Ltr} {p : Ltr} {m : Mm} : aft w "plain" j hs p m = m := by
  unfold aft
  rw [if_neg (show ¬ ("plain" : Str) = "once" by decide), if_neg (show ¬ ("plain" : Str) = "row" by decide)]
  split <;> rfl
theorem aft_l {w : World} {j : Nat} {hs : List Ltr} {p : Ltr} {m : Mm} : aft w "loose" j hs p m = m := by
  unfold aft
  rw [if_neg (show ¬ ("loose" : Str) = "once" by decide), if_neg (show ¬ ("loose" : Str) = "row" by decide)]
  split <;> rfl
theorem aft_o {w : World} {j : Nat} {hs : List Ltr} {p : Ltr} {m : Mm} : aft w "once" j hs p m = if hearR "once" hs p = "heard" then m.set j (.dn w (pairsM (hs ++ [p]))) else m := by
  unfold aft
  rw [if_pos (show ("once" : Str) = "once" from rfl)]
theorem aft_r {w : World} {j : Nat} {hs : List Ltr} {p : Ltr} {m : Mm} : aft w "row" j hs p m = if hearR "row" hs p = "heard" then m.set j (.dct (greatM (hs ++ [p]))) else m := by
  unfold aft
  rw [if_neg (show ¬ ("row" : Str) = "once" by decide), if_pos (show ("row" : Str) = "row" from rfl)]
/-- a letter taken, in the store -/
theorem aft_get {w : World} {kd : Str} {j : Nat} {hs : List Ltr} {p : Ltr} {m : Mm} {y : Nat} (h : j ≠ y) : (aft w kd j hs p m)[y]? = m[y]? := by
  unfold aft
  split
  · split
    · rw [List.getElem?_set_ne h]
    · split
      · rw [List.getElem?_set_ne h]
      · rfl
  · rfl
theorem aft_len {w : World} {kd : Str} {j : Nat} {hs : List Ltr} {p : Ltr} {m : Mm} : (aft w kd j hs p m).length = m.length := by
  unfold aft
  split
  · split
    · rw [List.length_set]
    · split
      · rw [List.length_set]
      · rfl
  · rfl
theorem aft_lst {p : Ltr} (h : SvAt w CF CL CO CT m kd i j hs) {y : Nat} {xs : List MV} (hy : m[y]? = some (.lst xs)) : (aft w kd j hs p m)[y]? = some (.lst xs) := by
  rcases h with h | h | h | h
  · obtain ⟨rfl, -⟩ := h
    rw [aft_p]; exact hy
  · obtain ⟨rfl, -⟩ := h
    rw [aft_l]; exact hy
  · rw [aft_get (fun z => by subst z; rw [hy] at h; cases h.2.2)]; exact hy
  · rw [aft_get (fun z => by subst z; rw [hy] at h; cases h.2.2)]; exact hy
theorem aft_oth {p : Ltr} (h : SvAt w CF CL CO CT m kd i j hs) {kd' : Str} {i' j' : Nat} {hs' : List Ltr} (h' : SvAt w CF CL CO CT m kd' i' j' hs') (hj : j' ≠ j) : SvAt w CF CL CO CT (aft w kd j hs p m) kd' i' j' hs' := by
  rcases h with h | h | h | h
  · obtain ⟨rfl, -⟩ := h
    rw [aft_p]; exact h'
  · obtain ⟨rfl, -⟩ := h
    rw [aft_l]; exact h'
  · obtain ⟨rfl, -, hd⟩ := h
    rw [aft_o]
    split
    · exact h'.setD hd (fun _ _ z => by cases z) hj _
    · exact h'
  · obtain ⟨rfl, -, hd⟩ := h
    rw [aft_r]
    split
    · exact h'.setD hd (fun _ _ z => by cases z) hj _
    · exact h'
theorem aft_own {p : Ltr} (h : SvAt w CF CL CO CT m kd i j hs) : SvAt w CF CL CO CT (aft w kd j hs p m) kd i j (if hearR kd hs p = "heard" then hs ++ [p] else hs) := by
  rcases h with h | h | h | h
  · obtain ⟨rfl, h⟩ := h
    refine .inl ⟨rfl, ?_⟩
    rw [aft_p]; exact h
  · obtain ⟨rfl, h⟩ := h
    refine .inr (.inl ⟨rfl, ?_⟩)
    rw [aft_l]; exact h
  · obtain ⟨rfl, h, hd⟩ := h
    refine .inr (.inr (.inl ⟨rfl, ?_, ?_⟩))
    · rw [aft_get (fun z => by subst z; rw [hd] at h; cases h)]; exact h
    · rw [aft_o]
      split
      · rw [List.getElem?_set_self (List.getElem?_eq_some_iff.mp hd).1]
      · exact hd
  · obtain ⟨rfl, h, hd⟩ := h
    refine .inr (.inr (.inr ⟨rfl, ?_, ?_⟩))
    · rw [aft_get (fun z => by subst z; rw [hd] at h; cases h)]; exact h
    · rw [aft_r]
      split
      · rw [List.getElem?_set_self (List.getElem?_eq_some_iff.mp hd).1]
      · exact hd
/-- the entry k hears p: its sieve, then its list -/
def hx (e : Ent) (p : Ltr) : Ent := if hearR e.kd e.hs p = "heard" then { e with hs := e.hs ++ [p] } else e
theorem hx_kd (e : Ent) (p : Ltr) : (hx e p).kd = e.kd := by unfold hx; split <;> rfl
theorem hx_i (e : Ent) (p : Ltr) : (hx e p).i = e.i := by unfold hx; split <;> rfl
theorem hx_j (e : Ent) (p : Ltr) : (hx e p).j = e.j := by unfold hx; split <;> rfl
theorem hx_h (e : Ent) (p : Ltr) : (hx e p).h = e.h := by unfold hx; split <;> rfl
theorem hx_hs (e : Ent) (p : Ltr) : (hx e p).hs = if hearR e.kd e.hs p = "heard" then e.hs ++ [p] else e.hs := by unfold hx; split <;> rfl
theorem map_set_same {α : Type} {es : List Ent} {k : Nat} {e e' : Ent} {f : Ent → α} (he : es[k]? = some e) (hf : f e' = f e) : (es.set k e').map f = es.map f := by
  refine List.ext_getElem? fun y => ?_
  rw [List.getElem?_map, List.getElem?_map]
  by_cases hy : k = y
  · subst hy
    rw [List.getElem?_set_self (List.getElem?_eq_some_iff.mp he).1, he]
    exact congrArg some hf
  · rw [List.getElem?_set_ne hy]
theorem Core.hear (h : Core w CF CL CO CT m n T wh cs si hi es) {k : Nat} {e : Ent} (he : es[k]? = some e) {p : Ltr} (pb : 0 ≤ p.1 ∧ p.1 < 16 ∧ 0 ≤ p.2 ∧ p.2 < 1000000) {m' : Mm}
    (hm : m' = if hearR e.kd e.hs p = "heard" then (aft w e.kd e.j e.hs p m).set e.h (.lst (hsM (e.hs ++ [p]))) else aft w e.kd e.j e.hs p m) :
    Core w CF CL CO CT m' n (T + 1) wh cs si hi (es.set k (hx e p)) := by
  have ek := h.en e (List.mem_of_getElem? he)
  have eo := h.oh e (List.mem_of_getElem? he)
  have o1 := h.o1
  have ha : (aft w e.kd e.j e.hs p m)[e.h]? = some (.lst (hsM e.hs)) := aft_lst ek.sv ek.hh
  have hl : m'.length = m.length := by rw [hm]; split <;> simp [aft_len]
  have svk : ∀ {kd' : Str} {i' j' : Nat} {hs' : List Ltr}, SvAt w CF CL CO CT (aft w e.kd e.j e.hs p m) kd' i' j' hs' → SvAt w CF CL CO CT m' kd' i' j' hs' := fun z => by
    rw [hm]; split
    · exact z.setL ha _
    · exact z
  have lk : ∀ {y : Nat} {xs : List MV}, e.h ≠ y → m[y]? = some (.lst xs) → m'[y]? = some (.lst xs) := fun {y xs} hy z => by
    rw [hm]; split
    · rw [List.getElem?_set_ne hy]; exact aft_lst ek.sv z
    · exact aft_lst ek.sv z
  refine ⟨⟨lk (by omega) h.dk.a, lk (by omega) h.dk.b⟩, fun e' he' => ?_, h.o1, h.o2, fun e' he' => ?_, ?_, ?_, fun e' he' => ?_⟩
  · obtain ⟨y, hy⟩ := List.getElem?_of_mem he'
    by_cases hyk : k = y
    · subst hyk
      rw [List.getElem?_set_self (List.getElem?_eq_some_iff.mp he).1] at hy
      cases hy
      refine ⟨by rw [hx_kd]; exact ek.ks, by rw [hx_kd, hx_i, hx_j, hx_hs]; exact svk (aft_own ek.sv), ?_, ?_, ?_, ?_, ?_, ?_⟩
      · rw [hx_h, hx_hs, hm]
        split
        · rw [List.getElem?_set_self (List.getElem?_eq_some_iff.mp ha).1]
        · exact ha
      · rw [hx_kd, hx_hs]
        intro hr
        split
        · rename_i hh
          refine GT_snoc (ek.gt hr) fun z => ?_
          rw [hr] at hh
          unfold hearR at hh
          rw [if_neg (by decide), if_pos rfl, if_pos z] at hh
          exact absurd hh (by decide)
        · exact ek.gt hr
      · rw [hx_kd, hx_hs]
        intro hr
        split
        · rename_i hh
          refine List.nodup_append.mpr ⟨ek.nd hr, List.nodup_cons.mpr ⟨by simp, List.nodup_nil⟩, fun a hin b hb => ?_⟩
          rw [List.mem_singleton.mp hb]
          rintro rfl
          rw [hr] at hh
          unfold hearR at hh
          rw [if_pos rfl, if_pos hin] at hh
          exact absurd hh (by decide)
        · exact ek.nd hr
      · rw [hx_hs]
        split
        · intro q hq
          rcases List.mem_append.mp hq with hq | hq
          · exact ek.ib q hq
          · rw [List.mem_singleton.mp hq]; omega
        · exact ek.ib
      · rw [hx_hs]
        split
        · intro q hq
          rcases List.mem_append.mp hq with hq | hq
          · exact ek.lt q hq
          · rw [List.mem_singleton.mp hq]; omega
        · exact ek.lt
      · have := ek.ln
        rw [hx_hs]
        split
        · rw [List.length_append]; simp; omega
        · omega
    · rw [List.getElem?_set_ne hyk] at hy
      have k' := h.en e' (List.mem_of_getElem? hy)
      exact ⟨k'.ks, svk (aft_oth ek.sv k'.sv (nod_ne h.nj hy he (fun z => hyk z.symm))), lk (nod_ne h.nh he hy hyk) k'.hh, k'.gt, k'.nd, k'.ib, k'.lt, Nat.le_trans k'.ln (by omega)⟩
  · obtain ⟨y, hy⟩ := List.getElem?_of_mem he'
    by_cases hyk : k = y
    · subst hyk
      rw [List.getElem?_set_self (List.getElem?_eq_some_iff.mp he).1] at hy
      cases hy
      rw [hx_h]; exact eo
    · rw [List.getElem?_set_ne hyk] at hy
      exact h.oh e' (List.mem_of_getElem? hy)
  · rw [map_set_same he (hx_h e p)]; exact h.nh
  · rw [map_set_same he (hx_j e p)]; exact h.nj
  · rw [hl]
    obtain ⟨y, hy⟩ := List.getElem?_of_mem he'
    by_cases hyk : k = y
    · subst hyk
      rw [List.getElem?_set_self (List.getElem?_eq_some_iff.mp he).1] at hy
      cases hy
      rw [hx_j]; exact h.jl e (List.mem_of_getElem? he)
    · rw [List.getElem?_set_ne hyk] at hy
      exact h.jl e' (List.mem_of_getElem? hy)
/-- the three lists stay, when one hears -/
theorem lists_hear (h : Core w CF CL CO CT m n T wh cs si hi es) {k : Nat} {e : Ent} (he : es[k]? = some e) {p : Ltr} {m' : Mm}
    (hm : m' = if hearR e.kd e.hs p = "heard" then (aft w e.kd e.j e.hs p m).set e.h (.lst (hsM (e.hs ++ [p]))) else aft w e.kd e.j e.hs p m) {y : Nat} {xs : List MV} (hy : e.h ≠ y) (z : m[y]? = some (.lst xs)) : m'[y]? = some (.lst xs) := by
  have ek := h.en e (List.mem_of_getElem? he)
  rw [hm]; split
  · rw [List.getElem?_set_ne hy]; exact aft_lst ek.sv z
  · exact aft_lst ek.sv z
end
theorem rows_one {hs : List Ltr} {us vs : List (List Int)} (ib : inB hs) (h1 : us.Perm (hs.map pN)) (h2 : us.Pairwise fun s t => TS.code 1000000 s ≤ TS.code 1000000 t) (h3 : vs.Perm (hs.map pN)) (h5 : vs.Pairwise fun s t => TS.code 1000000 s ≤ TS.code 1000000 t) : us = vs := by
  refine List.Perm.eq_of_pairwise (le := fun s t => TS.code 1000000 s ≤ TS.code 1000000 t) (fun a b ha hb q1 q2 => ?_) h2 h5 (h1.trans h3.symm)
  obtain ⟨p, hp, rfl⟩ := List.mem_map.mp (h1.mem_iff.mp ha)
  obtain ⟨p', hp', rfl⟩ := List.mem_map.mp (h3.mem_iff.mp hb)
  have b1 := ib p hp
  have b2 := ib p' hp'
  have c1 : ∀ p : Ltr, TS.code 1000000 (pN p) = p.1 * 1000000 + p.2 := fun p => by simp [TS.code, pN]
  rw [c1, c1] at q1 q2
  have e1 : p.1 = p'.1 := by omega
  have e2 : p.2 = p'.2 := by omega
  rw [Prod.ext e1 e2]
theorem fit_ltr (p : Ltr) : fit 1 (ltrD p) := ⟨Nat.le_of_ble_eq_true rfl, fun e he => by
  rcases List.mem_cons.mp he with rfl | he
  · trivial
  · rw [List.mem_singleton.mp he]; trivial⟩
theorem fit_rowT {hs : List Ltr} (h : hs.length < 64) : fit 2 (.tuple (rowT hs)) := by
  refine ⟨?_, fun e he => ?_⟩
  · unfold rowT
    rw [List.length_map]
    have := great_len hs
    have e : (srtI ((greatT hs).map (·.1))).length = ((greatT hs).map (·.1)).length := by simp [srtI]
    rw [e, List.length_map]; omega
  · unfold rowT at he
    obtain ⟨s, -, rfl⟩ := List.mem_map.mp he
    exact fit_ltr _
theorem fit_us {hs : List Ltr} {us : List (List Int)} (h : hs.length < 64) (p : us.Perm (hs.map pN)) : fit 2 (.tuple (us.map fun ns => .tuple (ns.map .int))) := by
  refine ⟨by rw [List.length_map, p.length_eq, List.length_map]; omega, fun e he => ?_⟩
  obtain ⟨ns, hn, rfl⟩ := List.mem_map.mp he
  obtain ⟨q, -, rfl⟩ := List.mem_map.mp (p.mem_iff.mp hn)
  exact fit_ltr q
theorem at2 {α : Type} (a b : α) (t : Nat) : atI [a, b] ((t : Int) % 2) = some (if t % 2 = 0 then a else b) := by
  rcases Nat.mod_two_eq_zero_or_one t with h | h
  · rw [if_pos h, show (t : Int) % 2 = ((0 : Nat) : Int) by omega]; rfl
  · rw [if_neg (by omega), show (t : Int) % 2 = ((1 : Nat) : Int) by omega]; rfl
def someD : List PyData := [.str "loose", .str "once", .str "row", .str "once", .str "row", .str "plain"]
theorem some_ks {v : Nat} (h : v < 6) : ∃ kd, Ks kd ∧ atI (someD.map MV.d) (v : Int) = some (.d (.str kd)) := by
  match v, h with
  | 0, _ => exact ⟨_, ⟨.inr (.inl rfl)⟩, rfl⟩
  | 1, _ => exact ⟨_, ⟨.inr (.inr (.inl rfl))⟩, rfl⟩
  | 2, _ => exact ⟨_, ⟨.inr (.inr (.inr rfl))⟩, rfl⟩
  | 3, _ => exact ⟨_, ⟨.inr (.inr (.inl rfl))⟩, rfl⟩
  | 4, _ => exact ⟨_, ⟨.inr (.inr (.inr rfl))⟩, rfl⟩
  | 5, _ => exact ⟨_, ⟨.inl rfl⟩, rfl⟩
structure St (w : World) (CF CL CO CT : Addr) (m : Mm) (n T : Nat) (wh : Int) (cs : List Int) (si hi : Nat) (es : List Ent) : Prop where
  c : Core w CF CL CO CT m n T wh cs si hi es
  k : m[2]? = some (.lst (es.map fun e => .d (.str e.kd)))
  s : m[si]? = some (.lst (es.map fun e => .r e.i))
  h : m[hi]? = some (.lst (es.map fun e => .r e.h))
section
variable {w : World} {CF CL CO CT : Addr} {m : Mm} {n T : Nat} {wh : Int} {cs : List Int} {si hi : Nat} {es : List Ent}
theorem St.app (z : St w CF CL CO CT m n T wh cs si hi es) (t : Mm) : St w CF CL CO CT (m ++ t) n T wh cs si hi es := ⟨z.c.app t, app_get z.k, app_get z.s, app_get z.h⟩
theorem St.nx (z : St w CF CL CO CT m n T wh cs si hi es) : St w CF CL CO CT (nxm m n wh) (n + 1) T wh cs si hi es := by
  have := z.c.o1
  have := z.c.o2
  exact ⟨z.c.nx, by rw [nxm_get (by omega)]; exact z.k, by rw [nxm_get (by omega)]; exact z.s, by rw [nxm_get (by omega)]; exact z.h⟩
theorem sq_r {i : Nat} {xs : List MV} (h : m[i]? = some (.lst xs)) : seqOf m (.r i) = some xs := by
  show (match m[i]? with | some (.lst xs) => some xs | _ => none) = _
  rw [h]
theorem ls_r {i : Nat} {xs : List MV} (h : m[i]? = some (.lst xs)) : lstOf m (.r i) = some xs := by
  show (match m[i]? with | some (.lst xs) => some xs | _ => none) = _
  rw [h]
theorem at_map {α : Type} {f : Ent → α} {k : Nat} {e : Ent} (h : es[k]? = some e) : atI (es.map f) (k : Int) = some (f e) := atI_of (by rw [List.getElem?_map, h]; rfl) rfl
theorem St.hear (z : St w CF CL CO CT m n T wh cs si hi es) {k : Nat} {e : Ent} (he : es[k]? = some e) {p : Ltr} (pb : 0 ≤ p.1 ∧ p.1 < 16 ∧ 0 ≤ p.2 ∧ p.2 < 1000000) {m' : Mm}
    (hm : m' = if hearR e.kd e.hs p = "heard" then (aft w e.kd e.j e.hs p m).set e.h (.lst (hsM (e.hs ++ [p]))) else aft w e.kd e.j e.hs p m) : St w CF CL CO CT m' n (T + 1) wh cs si hi (es.set k (hx e p)) := by
  have := z.c.o1
  have := z.c.oh e (List.mem_of_getElem? he)
  refine ⟨z.c.hear he pb hm, ?_, ?_, ?_⟩
  · rw [map_set_same he (by show MV.d (.str (hx e p).kd) = _; rw [hx_kd])]
    exact lists_hear z.c he hm (by omega) z.k
  · rw [map_set_same he (by show MV.r (hx e p).i = _; rw [hx_i])]
    exact lists_hear z.c he hm (by omega) z.s
  · rw [map_set_same he (by show MV.r (hx e p).h = _; rw [hx_h])]
    exact lists_hear z.c he hm (by omega) z.h
end
def clsOf (CF CL CO CT : Addr) (kd : Str) : Addr := if kd = "plain" then CF else if kd = "loose" then CL else if kd = "once" then CO else CT
theorem cls_p {CF CL CO CT : Addr} : clsOf CF CL CO CT "plain" = CF := by unfold clsOf; rw [if_pos rfl]
theorem cls_l {CF CL CO CT : Addr} : clsOf CF CL CO CT "loose" = CL := by unfold clsOf; rw [if_neg (by decide), if_pos rfl]
theorem cls_o {CF CL CO CT : Addr} : clsOf CF CL CO CT "once" = CO := by unfold clsOf; rw [if_neg (by decide), if_neg (by decide), if_pos rfl]
theorem cls_r {CF CL CO CT : Addr} : clsOf CF CL CO CT "row" = CT := by unfold clsOf; rw [if_neg (by decide), if_neg (by decide), if_neg (by decide)]
structure Kt (K : PySem.W.Frag) (CF CL CO CT : Addr) : Prop where
  oF : Ow K CF
  oL : Ow K CL
  oO : Ow K CO
  oT : Ow K CT
  FF : PySem.W.kitOne K (.ref CF) (.ref CF) = some true
  FL : PySem.W.kitOne K (.ref CF) (.ref CL) = some false
  FO : PySem.W.kitOne K (.ref CF) (.ref CO) = some false
  FT : PySem.W.kitOne K (.ref CF) (.ref CT) = some false
  LF : PySem.W.kitOne K (.ref CL) (.ref CF) = some true
  LL : PySem.W.kitOne K (.ref CL) (.ref CL) = some true
  LO : PySem.W.kitOne K (.ref CL) (.ref CO) = some false
  LT : PySem.W.kitOne K (.ref CL) (.ref CT) = some false
  OF : PySem.W.kitOne K (.ref CO) (.ref CF) = some true
  OL : PySem.W.kitOne K (.ref CO) (.ref CL) = some false
  OO : PySem.W.kitOne K (.ref CO) (.ref CO) = some true
  OT : PySem.W.kitOne K (.ref CO) (.ref CT) = some false
  TF : PySem.W.kitOne K (.ref CT) (.ref CF) = some true
  TL : PySem.W.kitOne K (.ref CT) (.ref CL) = some false
  TO : PySem.W.kitOne K (.ref CT) (.ref CO) = some false
  TT : PySem.W.kitOne K (.ref CT) (.ref CT) = some true
section
variable {K : PySem.W.Frag} {CF CL CO CT : Addr} {kd : Str}
theorem Kt.ow (T : Kt K CF CL CO CT) (ks : Ks kd) : Ow K (clsOf CF CL CO CT kd) := by
  rcases ks.is with rfl | rfl | rfl | rfl
  · rw [cls_p]; exact T.oF
  · rw [cls_l]; exact T.oL
  · rw [cls_o]; exact T.oO
  · rw [cls_r]; exact T.oT
theorem Kt.isF (T : Kt K CF CL CO CT) (ks : Ks kd) : PySem.W.kitOne K (.ref (clsOf CF CL CO CT kd)) (.ref CF) = some true := by
  rcases ks.is with rfl | rfl | rfl | rfl
  · rw [cls_p]; exact T.FF
  · rw [cls_l]; exact T.LF
  · rw [cls_o]; exact T.OF
  · rw [cls_r]; exact T.TF
theorem Kt.isL (T : Kt K CF CL CO CT) (ks : Ks kd) : PySem.W.kitOne K (.ref (clsOf CF CL CO CT kd)) (.ref CL) = some (decide (kd = "loose")) := by
  rcases ks.is with rfl | rfl | rfl | rfl
  · rw [cls_p]; exact T.FL
  · rw [cls_l]; exact T.LL
  · rw [cls_o]; exact T.OL
  · rw [cls_r]; exact T.TL
theorem Kt.isO (T : Kt K CF CL CO CT) (ks : Ks kd) : PySem.W.kitOne K (.ref (clsOf CF CL CO CT kd)) (.ref CO) = some (decide (kd = "once")) := by
  rcases ks.is with rfl | rfl | rfl | rfl
  · rw [cls_p]; exact T.FO
  · rw [cls_l]; exact T.LO
  · rw [cls_o]; exact T.OO
  · rw [cls_r]; exact T.TO
theorem Kt.isT (T : Kt K CF CL CO CT) (ks : Ks kd) : PySem.W.kitOne K (.ref (clsOf CF CL CO CT kd)) (.ref CT) = some (decide (kd = "row")) := by
  rcases ks.is with rfl | rfl | rfl | rfl
  · rw [cls_p]; exact T.FT
  · rw [cls_l]; exact T.LT
  · rw [cls_o]; exact T.OT
  · rw [cls_r]; exact T.TT
theorem sv_cls {w : World} {m : Mm} {i j : Nat} {hs : List Ltr} (h : SvAt w CF CL CO CT m kd i j hs) : ∃ fs, m[i]? = some (.ins (clsOf CF CL CO CT kd) fs) := by
  rcases h with h | h | h | h
  · obtain ⟨rfl, h⟩ := h; rw [cls_p]; exact ⟨_, h⟩
  · obtain ⟨rfl, h⟩ := h; rw [cls_l]; exact ⟨_, h⟩
  · obtain ⟨rfl, h, -⟩ := h; rw [cls_o]; exact ⟨_, h⟩
  · obtain ⟨rfl, h, -⟩ := h; rw [cls_r]; exact ⟨_, h⟩
end
theorem eqv_b3 (a b c : Bool) : PyData.eqv (.list [.bool a, .bool b, .bool c]) (.list [.bool a, .bool b, .bool c]) = true := by
  cases a <;> cases b <;> cases c <;> rfl

end Wn
set_option Elab.async false
set_option linter.all false
set_option maxRecDepth 100000
set_option maxHeartbeats 2000000
set_option autoImplicit false
set_option pp.maxSteps 600
namespace Wn
open PySem L2
local macro_rules | `(tactic| walk_at "fam") => `(tactic| first | assumption | exact Fam.blk (by assumption) _ | exact Fam.blk (Fam.blk (by assumption) _) _)
local macro_rules | `(tactic| walk_at "at") => `(tactic| with_reducible first | exact At.z | exact At.s At.z | exact At.s (At.s At.z) | exact At.s (At.s (At.s At.z)) | exact At.s (At.s (At.s (At.s At.z))) | exact At.s (At.s (At.s (At.s (At.s At.z)))) | exact At.s (At.s (At.s (At.s (At.s (At.s At.z))))) | exact At.s (At.s (At.s (At.s (At.s (At.s (At.s At.z)))))) | exact At.s (At.s (At.s (At.s (At.s (At.s (At.s (At.s At.z))))))) | exact At.s (At.s (At.s (At.s (At.s (At.s (At.s (At.s (At.s At.z)))))))) | exact At.s (At.s (At.s (At.s (At.s (At.s (At.s (At.s (At.s (At.s At.z))))))))) | exact At.s (At.s (At.s (At.s (At.s (At.s (At.s (At.s (At.s (At.s (At.s At.z)))))))))) | exact At.s (At.s (At.s (At.s (At.s (At.s (At.s (At.s (At.s (At.s (At.s (At.s At.z))))))))))) | exact At.s (At.s (At.s (At.s (At.s (At.s (At.s (At.s (At.s (At.s (At.s (At.s (At.s At.z)))))))))))) | exact At.s (At.s (At.s (At.s (At.s (At.s (At.s (At.s (At.s (At.s (At.s (At.s (At.s (At.s At.z))))))))))))) | exact At.s (At.s (At.s (At.s (At.s (At.s (At.s (At.s (At.s (At.s (At.s (At.s (At.s (At.s (At.s At.z)))))))))))))) | exact At.s (At.s (At.s (At.s (At.s (At.s (At.s (At.s (At.s (At.s (At.s (At.s (At.s (At.s (At.s (At.s At.z))))))))))))))) | exact At.s (At.s (At.s (At.s (At.s (At.s (At.s (At.s (At.s (At.s (At.s (At.s (At.s (At.s (At.s (At.s (At.s At.z)))))))))))))))) | exact At.s (At.s (At.s (At.s (At.s (At.s (At.s (At.s (At.s (At.s (At.s (At.s (At.s (At.s (At.s (At.s (At.s (At.s At.z))))))))))))))))) | exact At.s (At.s (At.s (At.s (At.s (At.s (At.s (At.s (At.s (At.s (At.s (At.s (At.s (At.s (At.s (At.s (At.s (At.s (At.s At.z)))))))))))))))))) | exact At.s (At.s (At.s (At.s (At.s (At.s (At.s (At.s (At.s (At.s (At.s (At.s (At.s (At.s (At.s (At.s (At.s (At.s (At.s (At.s At.z))))))))))))))))))) | exact At.s (At.s (At.s (At.s (At.s (At.s (At.s (At.s (At.s (At.s (At.s (At.s (At.s (At.s (At.s (At.s (At.s (At.s (At.s (At.s (At.s At.z)))))))))))))))))))))
local macro_rules | `(tactic| walk_at "call") => `(tactic| first
  | ((with_reducible show We _ _ (.Call (.Name "len" _) _ _ _) _ _ _); refine b_lenU (by walk_at "fam") (by assumption) ?_)
  | ((with_reducible show We _ _ (.Call (.Name "isinstance" _) [_, .Name "int" _] _ _) _ _ _); refine b_isiInt (by walk_at "fam") (by assumption) ?_)
  | ((with_reducible show We _ _ (.Call (.Name "isinstance" _) [_, .Name "bool" _] _ _) _ _ _); refine b_isiBool (by walk_at "fam") (by assumption) ?_)
  | ((with_reducible show We _ _ (.Call (.Name "isinstance" _) [_, .Name "tuple" _] _ _) _ _ _); refine b_isiTup (by walk_at "fam") (by assumption) ?_)
  | ((with_reducible show We _ _ (.Call (.Name "isinstance" _) [_, .Name "str" _] _ _) _ _ _); refine b_isi (T := "str") (n := "str") (by walk_at "fam") (by assumption) (Bx.str (by assumption)) bo_str ?_)
  | ((with_reducible show We _ _ (.Call (.Name "max" _) [_, _] _ _) _ _ _); refine b_max2 (by walk_at "fam") (Bx.max (by assumption)) ?_)
  | ((with_reducible show We _ _ (.Call (.Name "dict" _) _ _ _) _ _ _); refine b_dict (by walk_at "fam") (Bx.dict (by assumption)) ?_)
  | ((with_reducible show We _ _ (.Call (.Name "all" _) _ _ _) _ _ _); refine b_all (by walk_at "fam") (Bx.all (by assumption)) ?_)
  | ((with_reducible show We _ _ (.Call (.Name "abs" _) _ _ _) _ _ _); refine b_abs (by walk_at "fam") (by assumption) ?_)
  | ((with_reducible show We _ _ (.Call (.Name "int" _) _ _ _) _ _ _); refine b_intB (by walk_at "fam") (by assumption) ?_)
  | ((with_reducible show We _ _ (.Call (.Name "tuple" _) _ _ _) _ _ _); refine b_tup (by walk_at "fam") (by assumption) ?_)
  | ((with_reducible show We _ _ (.Call (.Name "list" _) [.Call (.Name "range" _) _ _ _] _ _) _ _ _); refine we_listRg (by walk_at "fam") (Bt.list (by assumption)) (Bt.range (by assumption)) ?_)
  | ((with_reducible show We _ _ (.Call (.Name "list" _) _ _ _) _ _ _); refine b_lst (by walk_at "fam") (by assumption) ?_)
  | ((with_reducible show We _ _ (.Call (.Name "min" _) [_, _] _ _) _ _ _); refine b_min2 (by walk_at "fam") (by assumption) ?_)
  | ((with_reducible show We _ _ (.Call (.Name "min" _) [_] [_] _) _ _ _); refine we_minDD (by walk_at "fam") (Bt.min (by assumption)) ?_)
  | ((with_reducible show We _ _ (.Call (.Name "min" _) [_] [] _) _ _ _); refine b_min1 (by walk_at "fam") (by assumption) ?_)
  | ((with_reducible show We _ _ (.Call (.Name "sorted" _) _ _ _) _ _ _); refine b_sorted (by walk_at "fam") (by assumption) ?_)
  | ((with_reducible show We _ _ (.Call (.Attribute _ "append" _) _ _ _) _ _ _); refine we_append (by walk_at "fam") ?_)
  | ((with_reducible show We _ _ (.Call (.Attribute _ "insert" _) [_, _] _ _) _ _ _); refine we_insert (by walk_at "fam") ?_)
  | ((with_reducible show We _ _ (.Call (.Name "max" _) [_] _ _) _ _ _); refine b_maxI (by walk_at "fam") (Bx.max (by assumption)) ?_)
  | ((with_reducible show We _ _ (.Call (.Attribute _ "join" _) [_] _ _) _ _ _); refine we_joinS (by walk_at "fam") ?_)
  | ((with_reducible show We _ _ (.Call (.Attribute _ "setdefault" _) [_, _] _ _) _ _ _); refine we_dsetd (by walk_at "fam") ?_)
  | ((with_reducible show We _ _ (.Call (.Attribute _ "partition" _) [_] _ _) _ _ _); refine we_part (by walk_at "fam") ?_)
  | ((with_reducible show We _ _ (.Call (.Attribute _ "split" _) [_] _ _) _ _ _); refine we_splitS (by walk_at "fam") ?_)
  | ((with_reducible show We _ _ (.Call (.Name "str" _) [_] _ _) _ _ _); refine b_str (by walk_at "fam") (Bx.str (by assumption)) ?_)
  | ((with_reducible show We _ _ (.Call (.Name "any" _) [_] _ _) _ _ _); refine b_any (by walk_at "fam") (by assumption) ?_)
  | ((with_reducible show We _ _ (.Call (.Attribute _ "extend" _) _ _ _) _ _ _); refine we_extend (by walk_at "fam") ?_)
  | ((with_reducible show We _ _ (.Call (.Attribute _ "pop" _) [_, _] _ _) _ _ _); refine we_dpop (by walk_at "fam") ?_)
  | ((with_reducible show We _ _ (.Call (.Name _ _) _ _ _) _ _ _); refine we_call (by walk_at "fam") (by assumption) (by decide) ?_)
  | ((with_reducible show We _ _ (.Call (.Name _ _) [] _ _) _ _ _); refine we_make0 (by walk_at "fam") (by assumption) (by decide) ?_)
  | ((with_reducible show We _ _ (.Call (.Name _ _) _ _ _) _ _ _); refine we_make (by walk_at "fam") (by assumption) (by decide) ?_)
  | ((with_reducible show We _ _ (.Call (.Attribute _ _ _) (_ :: _) _ _) _ _ _); refine we_meth (by walk_at "fam") (by assumption) (by decide) ?_)
  | ((with_reducible show We _ _ (.Call (.Attribute _ _ _) [] _ _) _ _ _); refine we_meth0 (by walk_at "fam") (by assumption) (by decide) ?_))
local macro_rules | `(tactic| walk_at "e") => `(tactic| first
  | ((with_reducible show We _ _ (.Name _ _) _ _ _); first | refine we_varA (by walk_at "fam") (by walk_at "at") (by rfl) ?_ | refine we_gint (by walk_at "fam") (by assumption) ?_ | refine we_gstr (by walk_at "fam") (by assumption) ?_ | refine we_gtup (by walk_at "fam") (by assumption) ?_)
  | ((with_reducible show We _ _ (.Constant _ _ _) _ _ _); first | refine we_int ?_ | refine we_bl ?_ | refine we_non ?_ | refine we_str ?_)
  | ((with_reducible show We _ _ (.BinOp _ _ _ _) _ _ _); refine we_bin ?_)
  | ((with_reducible show We _ _ (.Compare _ [_] _ _) _ _ _); refine we_cmp ?_)
  | ((with_reducible show We _ _ (.Compare _ [_, _] _ _) _ _ _); refine we_chain ?_)
  | ((with_reducible show We _ _ (.BoolOp _ [_] _) _ _ _); refine we_one ?_)
  | ((with_reducible show We _ _ (.BoolOp .And _ _) _ _ _); refine we_and ?_)
  | ((with_reducible show We _ _ (.BoolOp .Or _ _) _ _ _); refine we_or ?_)
  | ((with_reducible show We _ _ (.UnaryOp .Not _ _) _ _ _); refine we_not ?_)
  | ((with_reducible show We _ _ (.UnaryOp .USub _ _) _ _ _); refine we_negI ?_)
  | ((with_reducible show We _ _ (.Dict [] [] _) _ _ _); refine we_dnew ?_)
  | ((with_reducible show We _ _ (.IfExp _ _ _ _) _ _ _); refine we_ifExp ?_)
  | ((with_reducible show We _ _ (.Tuple _ _ _) _ _ _); refine we_tup ?_)
  | ((with_reducible show We _ _ (.List _ _) _ _ _); refine we_lst ?_)
  | ((with_reducible show We _ _ (.Subscript _ (.Slice _ _ _ _) _) _ _ _); refine we_sliceTup (by walk_at "fam") ?_)
  | ((with_reducible show We _ _ (.Subscript _ _ _) _ _ _); refine we_ix ?_)
  | ((with_reducible show We _ _ (.Attribute _ _ _) _ _ _); refine we_fld (by walk_at "fam") ?_)
  | walk_at "call"
  | ((with_reducible show Wo _ _ none _ _ _); refine wo_none ?_)
  | ((with_reducible show Wo _ _ (some _) _ _ _); refine wo_some ?_)
  | ((with_reducible show Wr _ _ [] _ _ _); refine wr_nil ?_)
  | ((with_reducible show Wr _ _ (_ :: _) _ _ _); refine wr_cons ?_)
  | ((with_reducible show Wt _ _ (.UnaryOp .Not _ _) _ _ _); refine wt_not ?_)
  | ((with_reducible show Wt _ _ (.BoolOp .And _ _) _ _ _); refine wt_w (ww_and ?_))
  | ((with_reducible show Wt _ _ (.BoolOp .Or _ _) _ _ _); refine wt_w (ww_or ?_))
  | ((with_reducible show Wt _ _ (.Compare _ [_] _ _) _ _ _); refine wt_cmp ?_)
  | ((with_reducible show Wt _ _ _ _ _ _); refine wt_val ?_)
  | ((with_reducible show Ww _ _ (.BoolOp .And [_] _) _ _ _); refine ww_and1 ?_)
  | ((with_reducible show Ww _ _ (.BoolOp .Or [_] _) _ _ _); refine ww_or1 ?_)
  | ((with_reducible show Ww _ _ (.BoolOp .And _ _) _ _ _); refine ww_and ?_)
  | ((with_reducible show Ww _ _ (.BoolOp .Or _ _) _ _ _); refine ww_or ?_)
  | ((with_reducible show Ws _ _ [] _ _ _); refine ws_nil ?_)
  | ((with_reducible show Ws _ _ (_ :: _) _ _ _); refine ws_cons ?_)
  | ((with_reducible show Ws1 _ _ (.Return (some _) _) _ _ _); refine ws_ret ?_)
  | ((with_reducible show Ws1 _ _ (.If _ _ _ _) _ _ _); refine ws_if ?_)
  | ((with_reducible show Ws1 _ _ (.Expr _ _) _ _ _); refine ws_expr ?_)
  | ((with_reducible show Ws1 _ _ (.Assign [.Name _ _] (.ListComp _ _ _ _) _) _ _ _); fail)
  | ((with_reducible show Ws1 _ _ (.Assign [.Name _ _] _ _) _ _ _); refine ws_setA (by walk_at "fam") (by walk_at "at") ?_)
  | ((with_reducible show Ws1 _ _ (.Assign [.Attribute _ _ _] _ _) _ _ _); refine ws_fld (by walk_at "fam") ?_)
  | ((with_reducible show Ws1 _ _ (.Assign [_] _ _) _ _ _); refine ws_asg ?_)
  | ((with_reducible show Wts _ _ [] _ _ _); refine wts_nil ?_)
  | ((with_reducible show Wts _ _ [_] _ _ _); refine wts_one ?_)
  | ((with_reducible show Wg _ _ _ (.Name _ _) _ _ _ _); refine wg_nameA (by walk_at "fam") (by walk_at "at") ?_)
  | ((with_reducible show Wg _ _ _ (.Tuple _ _ _) _ _ _ _); refine wg_tup (by walk_at "fam") ?_)
  | ((with_reducible show Wg _ _ _ (.Subscript _ _ _) _ _ _ _); refine wg_sub ?_)
  | refine wgs_nil ?_ | refine wgs_cons ?_)
local macro_rules | `(tactic| walk_at "w") => `(tactic| repeat walk_at "e")
abbrev stLaw : Stmt := topS 15
theorem scLaw : FnScope ["_law_script", "_law_deck_here", "_law_some", "_law_kinds", "_law_sieves", "_law_heard", "_law_turn", "_law_k", "_law_other", "_law_sender", "_law_number", "_law_due_here", "_law_j", "_law_right"] ["_law_script"] (defScope stLaw) := ⟨rfl, rfl, rfl, by decide +kernel, rfl, by decide +kernel, by decide +kernel⟩
def sLaw (xs : List MV) (m : Mm) (Q : QV) : Prop := ∃ ns : List Int, xs = [.s ns] ∧ m = [] ∧ ∀ m', Q (.d (.bool true)) m'
section
variable {P : Program} {w : World} {K : PySem.W.Frag} {mg : Str → Option Value} {base : Heap} {f : Addr} {fd : FuncData} {CF CL CO CT : Addr}
theorem ok_law (F : Fun K "law" "law" stLaw f fd) (B : Bt mg) (hK : ∃ a, mg "KINDS" = some (.ref a) ∧ (∀ G, SqT K G a [.str "loose", .str "once", .str "row"]) ∧ ∀ G, DaAll K G [.str "loose", .str "once", .str "row"] [.str "loose", .str "once", .str "row"]) (D : Svs P w K mg base CF CL CO CT) (T : Kt K CF CL CO CT) (aF : mg "Filter" = some (.ref CF)) (aL : mg "Loose" = some (.ref CL)) (aO : mg "Once" = some (.ref CO)) (aT : mg "Turn" = some (.ref CT)) (C1 : Cal P w K mg base 2 "_law_deck" 1 sDeck) (C2 : Cal P w K mg base 2 "_law_next" 2 sNext) (C3 : Cal P w K mg base 4 "_law_sieve" 2 (sLSieve w CF CL CO CT)) (C4 : Cal P w K mg base 1 "_law_due" 4 sLDue) (C5 : Cal P w K mg base 3 "_law_same" 2 (sSame 2)) (C6 : Cal P w K mg base 1 "_law_rows" 2 sLRows) : FnOk P w K mg base CX0 5 f fd ["_law_script"] (spM K sLaw) := by
  refine fn_m F scLaw (fun xs m Q h => by obtain ⟨_, rfl, _⟩ := h; rfl) fun X Fm xs m Q ⟨ns, ex, em, q⟩ hs => ?_
  subst ex em
  refine ws_cons ?_
  walk_at "w"
  refine ⟨ns, rfl, rfl, fun wh cs => ?_⟩
  walk_at "w"
  refine ⟨[.str "loose", .str "once", .str "row"], rfl, Nat.le_of_ble_eq_true rfl, o_ne Fm rfl rfl rfl rfl (by simp [PyData.depth, PyData.depthAll]) ⟨_, rfl, ?_⟩⟩
  rw [show PyData.eqv (.tuple [.str "loose", .str "once", .str "row"]) (.tuple [.str "loose", .str "once", .str "row"]) = true by decide +kernel]
  refine L2.iteF (ws_nil ?_)
  walk_at "w"
  refine ⟨Nat.le_of_ble_eq_true rfl, .inl ⟨someD, rfl, ?_⟩⟩
  walk_at "w"
  refine ⟨0, wh, cs, 6, rfl, dk_dk _ _, by omega, by decide, fun v hv => ?_⟩
  obtain ⟨kd0, ks0, hat⟩ := some_ks hv
  refine ix_w Fm (xs := someD.map .d) rfl hat ?_
  have dk1 : Dk (nxm (dk 0 wh cs) 0 wh) 1 wh cs := (dk_dk wh cs).nx
  have l1 : (nxm (dk 0 wh cs) 0 wh).length = 2 := rfl
  generalize nxm (dk 0 wh cs) 0 wh = m1 at dk1 l1
  walk_at "w"
  refine ⟨Nat.le_of_ble_eq_true rfl, .inr ?_⟩
  rw [l1]
  walk_at "w"
  refine ix_w Fm (y := .d (.str kd0)) (xs := [.d (.str kd0)]) (by show (match (m1 ++ [MO.lst [.d (.str kd0)]])[2]? with | some (.lst xs) => some xs | _ => none) = _; rw [← l1]; simp) rfl ?_
  walk_at "w"
  refine ⟨1, wh, cs, 2, rfl, dk1.app _, by omega, by decide, fun v2 hv2 => ?_⟩
  have dk2 : Dk (nxm (m1 ++ [MO.lst [.d (.str kd0)]]) 1 wh) 2 wh cs := (dk1.app _).nx
  have l2 : (nxm (m1 ++ [MO.lst [.d (.str kd0)]]) 1 wh).length = 3 := by rw [nxm_len, List.length_append, l1]; rfl
  have g2 : (nxm (m1 ++ [MO.lst [.d (.str kd0)]]) 1 wh)[2]? = some (.lst [.d (.str kd0)]) := by rw [nxm_get (by decide), ← l1]; simp
  generalize nxm (m1 ++ [MO.lst [.d (.str kd0)]]) 1 wh = m2 at dk2 l2 g2
  walk_at "w"
  refine o_eqI Fm (wr_nil ⟨kd0, _, rfl, ks0, ?_⟩)
  obtain ⟨j0, j0a, j0b, sv0⟩ := fresh_sv (w := w) (CF := CF) (CL := CL) (CO := CO) (CT := CT) (m := m2) ks0
  have dk3 : Dk (m2 ++ fresh w CF CL CO CT kd0 m2.length) 2 wh cs := dk2.app _
  have g3 : (m2 ++ fresh w CF CL CO CT kd0 m2.length)[2]? = some (.lst [.d (.str kd0)]) := app_get g2
  generalize m2 ++ fresh w CF CL CO CT kd0 m2.length = m3 at j0b sv0 dk3 g3
  walk_at "w"
  refine ⟨Nat.le_of_ble_eq_true rfl, .inr ?_⟩
  walk_at "w"
  refine ⟨Nat.zero_le _, .inr ?_⟩
  walk_at "w"
  refine ⟨Nat.le_of_ble_eq_true rfl, .inr ?_⟩
  have hl1 : (m3 ++ [MO.lst [MV.r m2.length]]).length = m3.length + 1 := by simp
  have hl2 : (m3 ++ [MO.lst [MV.r m2.length]] ++ [MO.lst []]).length = m3.length + 2 := by simp
  rw [hl2, hl1]
  have co : Core w CF CL CO CT (m3 ++ [MO.lst [MV.r m2.length]] ++ [MO.lst []] ++ [MO.lst [MV.r (m3.length + 1)]]) 2 0 wh cs m3.length (m3.length + 2) [⟨kd0, m2.length, j0, m3.length + 1, []⟩] := by
    refine ⟨((dk3.app _).app _).app _, fun e he => ?_, by omega, by omega, fun e he => ?_, by simp, by simp, fun e he => ?_⟩
    · rw [List.mem_singleton.mp he]
      exact ⟨ks0, ((sv0.app _).app _).app _, app_get (by rw [← hl1]; simp; rfl), fun _ => GT_nil, fun _ => List.nodup_nil, fun _ h => by simp at h, fun _ h => by simp at h, Nat.le_refl _⟩
    · rw [List.mem_singleton.mp he]; exact ⟨by show m3.length < m3.length + 1; omega, by show m3.length + 1 ≠ m3.length + 2; omega⟩
    · rw [List.mem_singleton.mp he, List.length_append, List.length_append, List.length_append]
      show j0 < _
      omega
  have gk : (m3 ++ [MO.lst [MV.r m2.length]] ++ [MO.lst []] ++ [MO.lst [MV.r (m3.length + 1)]])[2]? = some (.lst ([(⟨kd0, m2.length, j0, m3.length + 1, []⟩ : Ent)].map fun e => .d (.str e.kd))) := app_get (app_get (app_get g3))
  have gs : (m3 ++ [MO.lst [MV.r m2.length]] ++ [MO.lst []] ++ [MO.lst [MV.r (m3.length + 1)]])[m3.length]? = some (.lst ([(⟨kd0, m2.length, j0, m3.length + 1, []⟩ : Ent)].map fun e => .r e.i)) := app_get (app_get (by simp))
  have gh : (m3 ++ [MO.lst [MV.r m2.length]] ++ [MO.lst []] ++ [MO.lst [MV.r (m3.length + 1)]])[m3.length + 2]? = some (.lst ([(⟨kd0, m2.length, j0, m3.length + 1, []⟩ : Ent)].map fun e => .r e.h)) := by rw [← hl2]; simp
  have el : ([(⟨kd0, m2.length, j0, m3.length + 1, []⟩ : Ent)]).length = 1 := rfl
  generalize m3 ++ [MO.lst [MV.r m2.length]] ++ [MO.lst []] ++ [MO.lst [MV.r (m3.length + 1)]] = m4 at co gk gs gh
  generalize [(⟨kd0, m2.length, j0, m3.length + 1, []⟩ : Ent)] = es0 at co gk gs gh el
  generalize m3.length + 2 = hi at co gh
  generalize m3.length = si at co gs
  refine ws_cons (ws_for Fm (wi_range1 Fm B.range ?_))
  walk_at "w"
  have st0 : St w CF CL CO CT m4 2 0 wh cs si hi es0 := ⟨co, gk, gs, gh⟩
  clear co gk gs gh
  refine ⟨30, rfl, by decide, by decide, fun t ρ' m' => ∃ (n : Nat) (es : List Ent) (u6 u7 u8 u9 u10 u11 u12 u13 : Option MV), ρ' = [some (.s ns), some (.r 1), some (.d (.list someD)), some (.r 2), some (.r si), some (.r hi), u6, u7, u8, u9, u10, u11, u12, u13] ∧ St w CF CL CO CT m' n t wh cs si hi es ∧ 1 ≤ es.length ∧ es.length ≤ 4 ∧ n ≤ 10 + 10 * t, ⟨2, es0, _, _, _, _, _, _, _, _, rfl, st0, by omega, by omega, by omega⟩, fun _ _ _ _ _ => trivial, ?_, ?_⟩
  · clear st0 el es0 m4
    rintro t x ρ' m hx ⟨n, es, u6, u7, u8, u9, u10, u11, u12, u13, rfl, st, h1, h4, hn⟩
    obtain ⟨ht, rfl⟩ := rangeM_some hx
    have ht : t < 30 := ht
    rw [Int.zero_add]
    walk_at "w"
    refine .inl ⟨_, sq_r st.s, wr_nil ?_⟩
    rw [List.length_map]
    refine ⟨n, wh, cs, es.length, rfl, st.c.dk, by omega, h1, fun k hk => ?_⟩
    have st1 := st.nx
    generalize nxm m n wh = m1 at st1
    clear st m hx
    refine ws_cut (fun ρ' m' => ∃ (n' : Nat) (es' : List Ent) (u8' : Option MV), ρ' = [some (.s ns), some (.r 1), some (.d (.list someD)), some (.r 2), some (.r si), some (.r hi), some (.d (.int t)), some (.d (.int k)), u8', u9, u10, u11, u12, u13] ∧ St w CF CL CO CT m' n' t wh cs si hi es' ∧ k < es'.length ∧ es'.length ≤ 4 ∧ n' ≤ 14 + 10 * t) ?_ ?_
    · obtain ⟨e, he⟩ : ∃ e, es[k]? = some e := ⟨es[k], List.getElem?_eq_getElem hk⟩
      have ek := st1.c.en e (List.mem_of_getElem? he)
      walk_at "w"
      refine .inl ⟨_, sq_r st1.s, ?_⟩
      rw [List.length_map]
      walk_at "w"
      refine o_lt ⟨_, rfl, ?_⟩
      by_cases h4' : es.length < 4
      · rw [decide_eq_true (show (es.length : Int) < 4 by omega)]
        refine L2.iteT ?_
        walk_at "w"
        refine ⟨n + 1, wh, cs, 6, rfl, st1.c.dk, by omega, by decide, fun c hc => ?_⟩
        have st2 := st1.nx
        generalize nxm m1 (n + 1) wh = m2 at st2
        clear ek
        walk_at "w"
        refine o_eqI Fm ⟨_, rfl, ?_⟩
        by_cases hc0 : (c : Int) = 0
        · rw [decide_eq_true hc0]
          refine L2.iteT ?_
          walk_at "w"
          refine ⟨n + 1 + 1, wh, cs, 6, rfl, st2.c.dk, by omega, by decide, fun v hv => ?_⟩
          have st3 := st2.nx
          generalize nxm m2 (n + 1 + 1) wh = m3 at st3
          obtain ⟨oth, kso, hat⟩ := some_ks hv
          refine ix_w Fm (xs := someD.map .d) rfl hat ?_
          walk_at "w"
          refine ⟨si, _, rfl, st3.s, ?_⟩
          walk_at "w"
          have ek := st3.c.en e (List.mem_of_getElem? he)
          refine we_copy Fm D (by decide) (i := e.i) (j := e.j) (hs := e.hs) ek.ks (by have := ek.ln; omega) ek.nd ?_
          walk_at "w"
          refine ix_w Fm (sq_r st3.s) (at_map he) ⟨rfl, ek.sv, ?_⟩
          obtain ⟨jc, jca, jcb, svc⟩ := cpy_sv (w := w) (CF := CF) (CL := CL) (CO := CO) (CT := CT) (m := m3) (hs := e.hs) ek.ks
          have st4 := st3.app (cpy w CF CL CO CT e.kd m3.length e.hs)
          have l4 : m3.length ≤ (m3 ++ cpy w CF CL CO CT e.kd m3.length e.hs).length := by rw [List.length_append]; omega
          generalize m3 ++ cpy w CF CL CO CT e.kd m3.length e.hs = m4 at jcb svc st4 l4
          walk_at "w"
          refine ⟨n + 1 + 1 + 1, wh, cs, 2, rfl, st4.c.dk, by omega, by decide, fun v2 hv2 => ?_⟩
          have svc5 : SvAt w CF CL CO CT (nxm m4 (n + 1 + 1 + 1) wh) e.kd m3.length jc e.hs := svc.setL st4.c.dk.b _
          have st5 := st4.nx
          have l5 : (nxm m4 (n + 1 + 1 + 1) wh).length = m4.length := nxm_len
          generalize nxm m4 (n + 1 + 1 + 1) wh = m5 at svc5 st5 l5
          walk_at "w"
          refine o_eqI Fm (wr_nil ⟨oth, _, rfl, kso, ?_⟩)
          obtain ⟨jf, jfa, jfb, svf⟩ := fresh_sv (w := w) (CF := CF) (CL := CL) (CO := CO) (CT := CT) (m := m5) kso
          have st6 := st5.app (fresh w CF CL CO CT oth m5.length)
          have svc6 := svc5.app (fresh w CF CL CO CT oth m5.length)
          have l6 : m5.length ≤ (m5 ++ fresh w CF CL CO CT oth m5.length).length := by rw [List.length_append]; omega
          generalize m5 ++ fresh w CF CL CO CT oth m5.length = m6 at jfb svf st6 svc6 l6
          walk_at "w"
          refine ⟨Nat.le_of_ble_eq_true rfl, .inr ?_⟩
          walk_at "w"
          refine o_mod (by decide) ?_
          refine ix_w Fm (sq_r (m := m6 ++ [.lst [.r m3.length, .r m5.length]]) (i := m6.length) (xs := [.r m3.length, .r m5.length]) (by simp)) (at2 _ _ t) ?_
          obtain ⟨a, ea⟩ : ∃ a, (if t % 2 = 0 then m3.length else m5.length) = a := ⟨_, rfl⟩
          obtain ⟨j, ej⟩ : ∃ a, (if t % 2 = 0 then jc else jf) = a := ⟨_, rfl⟩
          obtain ⟨kd, ed⟩ : ∃ a, (if t % 2 = 0 then e.kd else oth) = a := ⟨_, rfl⟩
          obtain ⟨hs', eh⟩ : ∃ a, (if t % 2 = 0 then e.hs else []) = a := ⟨_, rfl⟩
          have sv6 : SvAt w CF CL CO CT m6 kd a j hs' := by
            rw [← ea, ← ej, ← ed, ← eh]
            by_cases z : t % 2 = 0
            · rw [if_pos z, if_pos z, if_pos z, if_pos z]; exact svc6
            · rw [if_neg z, if_neg z, if_neg z, if_neg z]; exact svf
          have jj : m3.length ≤ j ∧ j < m6.length := by
            rw [← ej]
            split <;> omega
          have jn : ∀ e' ∈ es, e'.j ≠ j := fun e' he' => by have := st3.c.jl e' he'; omega
          have ks' : Ks kd := by
            rw [← ed]; split
            · exact ek.ks
            · exact kso
          have gt' : kd = "row" → GT hs' := by
            rw [← ed, ← eh]
            by_cases z : t % 2 = 0
            · rw [if_pos z, if_pos z]; exact ek.gt
            · rw [if_neg z, if_neg z]; exact fun _ => GT_nil
          have nd' : kd = "once" → hs'.Nodup := by
            rw [← ed, ← eh]
            by_cases z : t % 2 = 0
            · rw [if_pos z, if_pos z]; exact ek.nd
            · rw [if_neg z, if_neg z]; exact fun _ => List.nodup_nil
          have ib' : inB hs' := by
            rw [← eh]; split
            · exact ek.ib
            · exact fun _ h => by simp at h
          have lt' : ∀ p ∈ hs', p.1 < 16 := by
            rw [← eh]; split
            · exact ek.lt
            · exact fun _ h => by simp at h
          have ln' : hs'.length ≤ t := by
            rw [← eh]; split
            · exact ek.ln
            · exact Nat.zero_le _
          rw [show (if t % 2 = 0 then MV.r m3.length else MV.r m5.length) = MV.r a by rw [← ea]; split <;> rfl]
          have o1 := st6.c.o1
          have o2 := st6.c.o2
          refine ⟨_, app_get st6.s, by rw [List.length_map]; omega, ?_⟩
          have c8 := (st6.c.app [.lst [.r m3.length, .r m5.length]]).setL (app_get st6.s) (by omega) (fun e' he' => by have := st6.c.oh e' he'; omega) (.lst ((es.map fun e => MV.r e.i) ++ [.r a]))
          have sv8 := (sv6.app [.lst [.r m3.length, .r m5.length]]).setL (app_get st6.s) (.lst ((es.map fun e => MV.r e.i) ++ [.r a]))
          have k8 : ((m6 ++ [MO.lst [.r m3.length, .r m5.length]]).set si (.lst ((es.map fun e => MV.r e.i) ++ [.r a])))[2]? = some (.lst (es.map fun e => .d (.str e.kd))) := by rw [List.getElem?_set_ne (by omega)]; exact app_get st6.k
          have h8 : ((m6 ++ [MO.lst [.r m3.length, .r m5.length]]).set si (.lst ((es.map fun e => MV.r e.i) ++ [.r a])))[hi]? = some (.lst (es.map fun e => .r e.h)) := by rw [List.getElem?_set_ne (by omega)]; exact app_get st6.h
          have s8 : ((m6 ++ [MO.lst [.r m3.length, .r m5.length]]).set si (.lst ((es.map fun e => MV.r e.i) ++ [.r a])))[si]? = some (.lst ((es.map fun e => MV.r e.i) ++ [.r a])) := by rw [List.getElem?_set_self (List.getElem?_eq_some_iff.mp (app_get st6.s)).1]
          have l8 : j < ((m6 ++ [MO.lst [.r m3.length, .r m5.length]]).set si (.lst ((es.map fun e => MV.r e.i) ++ [.r a]))).length := by rw [List.length_set, List.length_append]; omega
          generalize (m6 ++ [MO.lst [.r m3.length, .r m5.length]]).set si (.lst ((es.map fun e => MV.r e.i) ++ [.r a])) = m8 at c8 sv8 k8 h8 s8 l8
          walk_at "w"
          refine ⟨2, _, rfl, k8, ?_⟩
          walk_at "w"
          refine ix_w Fm (sq_r k8) (at_map he) ?_
          walk_at "w"
          refine ⟨Nat.le_of_ble_eq_true rfl, .inl ⟨[.str e.kd, .str oth], rfl, ?_⟩⟩
          walk_at "w"
          refine o_mod (by decide) ?_
          refine ix_w Fm (xs := [.d (.str e.kd), .d (.str oth)]) rfl (at2 _ _ t) ?_
          rw [show (if t % 2 = 0 then MV.d (.str e.kd) else MV.d (.str oth)) = MV.d (.str kd) by rw [← ed]; split <;> rfl]
          refine ⟨_, k8, by rw [List.length_map]; omega, ?_⟩
          have c9 := c8.setL k8 (Nat.le_refl _) (fun e' he' => by have := st6.c.oh e' he'; omega) (.lst ((es.map fun e => MV.d (.str e.kd)) ++ [.d (.str kd)]))
          have sv9 := sv8.setL k8 (.lst ((es.map fun e => MV.d (.str e.kd)) ++ [.d (.str kd)]))
          have h9 : (m8.set 2 (.lst ((es.map fun e => MV.d (.str e.kd)) ++ [.d (.str kd)])))[hi]? = some (.lst (es.map fun e => .r e.h)) := by rw [List.getElem?_set_ne (by omega)]; exact h8
          have s9 : (m8.set 2 (.lst ((es.map fun e => MV.d (.str e.kd)) ++ [.d (.str kd)])))[si]? = some (.lst ((es.map fun e => MV.r e.i) ++ [.r a])) := by rw [List.getElem?_set_ne (by omega)]; exact s8
          have k9 : (m8.set 2 (.lst ((es.map fun e => MV.d (.str e.kd)) ++ [.d (.str kd)])))[2]? = some (.lst ((es.map fun e => MV.d (.str e.kd)) ++ [.d (.str kd)])) := by rw [List.getElem?_set_self (List.getElem?_eq_some_iff.mp k8).1]
          have l9 : j < (m8.set 2 (.lst ((es.map fun e => MV.d (.str e.kd)) ++ [.d (.str kd)]))).length := by rw [List.length_set]; exact l8
          generalize m8.set 2 (.lst ((es.map fun e => MV.d (.str e.kd)) ++ [.d (.str kd)])) = m9 at c9 sv9 h9 s9 k9 l9
          have e9 := c9.en e (List.mem_of_getElem? he)
          walk_at "w"
          refine ⟨hi, _, rfl, h9, ?_⟩
          walk_at "w"
          refine ix_w Fm (sq_r h9) (at_map he) ⟨_, sq_r e9.hh, .inr ?_⟩
          walk_at "w"
          refine ⟨Nat.zero_le _, .inr ?_⟩
          walk_at "w"
          refine ⟨Nat.le_of_ble_eq_true rfl, .inr ?_⟩
          walk_at "w"
          refine o_mod (by decide) ?_
          have hl1 : (m9 ++ [MO.lst (hsM e.hs)]).length = m9.length + 1 := by simp
          have hl2 : (m9 ++ [MO.lst (hsM e.hs)] ++ [MO.lst []]).length = m9.length + 2 := by simp
          rw [hl2, hl1]
          refine ix_w Fm (sq_r (i := m9.length + 2) (xs := [.r m9.length, .r (m9.length + 1)]) (by rw [← hl2]; simp)) (at2 _ _ t) ?_
          obtain ⟨hh, ehh⟩ : ∃ a, (if t % 2 = 0 then m9.length else m9.length + 1) = a := ⟨_, rfl⟩
          rw [show (if t % 2 = 0 then MV.r m9.length else MV.r (m9.length + 1)) = MV.r hh by rw [← ehh]; split <;> rfl]
          have g9 : (m9 ++ [MO.lst (hsM e.hs)] ++ [MO.lst []] ++ [MO.lst [.r m9.length, .r (m9.length + 1)]])[hh]? = some (.lst (hsM hs')) := by
            rw [← ehh, ← eh]
            by_cases z : t % 2 = 0
            · rw [if_pos z, if_pos z]; exact app_get (app_get (by simp))
            · rw [if_neg z, if_neg z]; exact app_get (by rw [← hl1]; simp; rfl)
          have bh : m9.length ≤ hh := by rw [← ehh]; split <;> omega
          have c10 := ((c9.app [MO.lst (hsM e.hs)]).app [MO.lst []]).app [MO.lst [.r m9.length, .r (m9.length + 1)]]
          have sv10 := ((sv9.app [MO.lst (hsM e.hs)]).app [MO.lst []]).app [MO.lst [.r m9.length, .r (m9.length + 1)]]
          have h10 : (m9 ++ [MO.lst (hsM e.hs)] ++ [MO.lst []] ++ [MO.lst [.r m9.length, .r (m9.length + 1)]])[hi]? = some (.lst (es.map fun e => .r e.h)) := app_get (app_get (app_get h9))
          have s10 : (m9 ++ [MO.lst (hsM e.hs)] ++ [MO.lst []] ++ [MO.lst [.r m9.length, .r (m9.length + 1)]])[si]? = some (.lst ((es.map fun e => MV.r e.i) ++ [.r a])) := app_get (app_get (app_get s9))
          have k10 : (m9 ++ [MO.lst (hsM e.hs)] ++ [MO.lst []] ++ [MO.lst [.r m9.length, .r (m9.length + 1)]])[2]? = some (.lst ((es.map fun e => MV.d (.str e.kd)) ++ [.d (.str kd)])) := app_get (app_get (app_get k9))
          have l10 : j < (m9 ++ [MO.lst (hsM e.hs)] ++ [MO.lst []] ++ [MO.lst [.r m9.length, .r (m9.length + 1)]]).length := by rw [List.length_append, List.length_append, List.length_append]; omega
          have b9 : si < m9.length ∧ hi < m9.length ∧ ∀ e' ∈ es, e'.h < m9.length := ⟨(List.getElem?_eq_some_iff.mp s9).1, (List.getElem?_eq_some_iff.mp h9).1, fun e' he' => (List.getElem?_eq_some_iff.mp (c9.en e' he').hh).1⟩
          generalize m9 ++ [MO.lst (hsM e.hs)] ++ [MO.lst []] ++ [MO.lst [.r m9.length, .r (m9.length + 1)]] = m10 at g9 c10 sv10 h10 s10 k10 l10
          refine ⟨_, h10, by rw [List.length_map]; omega, ?_⟩
          have g11 : (m10.set hi (.lst ((es.map fun e => MV.r e.h) ++ [.r hh])))[hh]? = some (.lst (hsM hs')) := by rw [List.getElem?_set_ne (by omega)]; exact g9
          have en : EntOk w CF CL CO CT (m10.set hi (.lst ((es.map fun e => MV.r e.h) ++ [.r hh]))) t ⟨kd, a, j, hh, hs'⟩ := ⟨ks', sv10.setL h10 _, g11, gt', nd', ib', lt', ln'⟩
          have c11 := (c10.setL h10 (by omega) (fun e' he' => by have := st6.c.oh e' he'; omega) (.lst ((es.map fun e => MV.r e.h) ++ [.r hh]))).add en (by show si < hh; omega) (by show hh ≠ hi; omega) (fun e' he' => by show e'.h ≠ hh; have := b9.2.2 e' he'; omega) jn (by rw [List.length_set]; exact l10)
          refine ws_nil ⟨_, es ++ [⟨kd, a, j, hh, hs'⟩], _, rfl, ⟨c11, ?_, ?_, ?_⟩, by rw [List.length_append]; omega, by rw [List.length_append]; show es.length + 1 ≤ 4; omega, by omega⟩
          · rw [List.getElem?_set_ne (by omega), k10, List.map_append]; rfl
          · rw [List.getElem?_set_ne (by omega), s10, List.map_append]; rfl
          · rw [List.getElem?_set_self (List.getElem?_eq_some_iff.mp h10).1, List.map_append]; rfl
        · rw [decide_eq_false hc0]
          refine L2.iteF ?_
          exact ws_nil ⟨_, es, _, rfl, st2, hk, h4, by omega⟩
      · rw [decide_eq_false (show ¬ (es.length : Int) < 4 by omega)]
        refine L2.iteF ?_
        exact ws_nil ⟨_, es, _, rfl, st1, hk, h4, by omega⟩
    · clear st1 m1
      rintro ρ' m ⟨n', es', u8', rfl, st, hk', h4', hn'⟩
      walk_at "w"
      refine ⟨n', wh, cs, 4, rfl, st.c.dk, by omega, by decide, fun v hv => ?_⟩
      have st1 := st.nx
      generalize nxm m n' wh = m1 at st1
      walk_at "w"
      refine ⟨Nat.le_of_ble_eq_true rfl, .inl ⟨[.int 1, .int 5], rfl, ?_⟩⟩
      walk_at "w"
      refine ⟨n' + 1, wh, cs, 2, rfl, st1.c.dk, by omega, by decide, fun v2 hv2 => ?_⟩
      have st2 := st1.nx
      generalize nxm m1 (n' + 1) wh = m2 at st2
      obtain ⟨c5, hc5, b5⟩ : ∃ c : Int, atI [MV.d (.int 1), .d (.int 5)] (v2 : Int) = some (.d (.int c)) ∧ (c = 1 ∨ c = 5) := by
        match v2, hv2 with
        | 0, _ => exact ⟨1, rfl, .inl rfl⟩
        | 1, _ => exact ⟨5, rfl, .inr rfl⟩
      refine ix_w Fm (xs := [.d (.int 1), .d (.int 5)]) rfl hc5 ?_
      obtain ⟨sd, esd⟩ : ∃ sd : Int, (v : Int) * c5 = sd := ⟨_, rfl⟩
      have bsd : 0 ≤ sd ∧ sd < 16 := by
        rw [← esd]
        rcases b5 with rfl | rfl <;> omega
      refine o_mul (by rcases b5 with rfl | rfl <;> constructor <;> omega) ?_
      rw [esd]
      walk_at "w"
      refine o_pow ⟨by decide, by decide, by decide⟩ ?_
      walk_at "w"
      refine ⟨Nat.le_of_ble_eq_true rfl, .inl ⟨[.int 3, .int 12, .int 1000000], rfl, ?_⟩⟩
      walk_at "w"
      refine ⟨n' + 1 + 1, wh, cs, 3, rfl, st2.c.dk, by omega, by decide, fun v3 hv3 => ?_⟩
      have st3 := st2.nx
      generalize nxm m2 (n' + 1 + 1) wh = m3 at st3
      obtain ⟨mn, hmn, bmn⟩ : ∃ c : Nat, atI [MV.d (.int 3), .d (.int 12), .d (.int 1000000)] (v3 : Int) = some (.d (.int (c : Int))) ∧ 1 ≤ c ∧ c ≤ 1000000 := by
        match v3, hv3 with
        | 0, _ => exact ⟨3, rfl, by decide, by decide⟩
        | 1, _ => exact ⟨12, rfl, by decide, by decide⟩
        | 2, _ => exact ⟨1000000, rfl, by decide, by decide⟩
      refine ix_w Fm (xs := [.d (.int 3), .d (.int 12), .d (.int 1000000)]) rfl hmn (wr_nil ?_)
      refine ⟨n' + 1 + 1 + 1, wh, cs, mn, rfl, st3.c.dk, by omega, by omega, fun nb hnb => ?_⟩
      have st4 := st3.nx
      generalize nxm m3 (n' + 1 + 1 + 1) wh = m4 at st4
      clear st st1 st2 st3 m m1 m2 m3
      obtain ⟨e, he⟩ : ∃ e, es'[k]? = some e := ⟨es'[k], List.getElem?_eq_getElem hk'⟩
      have ek := st4.c.en e (List.mem_of_getElem? he)
      have hln := ek.ln
      walk_at "w"
      refine ix_w Fm (sq_r st4.k) (at_map he) ?_
      walk_at "w"
      refine ix_w Fm (sq_r st4.h) (at_map he) ?_
      walk_at "w"
      refine ⟨e.kd, .r e.h, (sd, (nb : Int)), e.hs, rfl, ls_r ek.hh, sq_r ek.hh, rfl, by omega, ?_⟩
      have pb : 0 ≤ sd ∧ sd < 16 ∧ 0 ≤ (nb : Int) ∧ (nb : Int) < 1000000 := by omega
      rw [due_hear ek.gt pb.2.2.1]
      walk_at "w"
      refine we_takes Fm D (by decide) (i := e.i) (j := e.j) (hs := e.hs) (p := (sd, (nb : Int))) ek.ks (by omega) pb.2.2.1 ?_
      walk_at "w"
      refine ix_w Fm (sq_r st4.s) (at_map he) ⟨rfl, ek.sv, ?_⟩
      walk_at "w"
      refine ⟨rfl, ek.sv, ?_⟩
      walk_at "w"
      refine ⟨.str (hearR e.kd e.hs (sd, (nb : Int))), rfl, trivial, _, rfl, ?_⟩
      refine L2.iteF (ws_nil ?_)
      refine ws_cut (fun ρ' m' => ρ' = [some (.s ns), some (.r 1), some (.d (.list someD)), some (.r 2), some (.r si), some (.r hi), some (.d (.int t)), some (.d (.int k)), u8', some (.d (.int sd)), some (.d (.int nb)), some (.d (.str (hearR e.kd e.hs (sd, (nb : Int))))), u12, u13] ∧ m' = if hearR e.kd e.hs (sd, (nb : Int)) = "heard" then (aft w e.kd e.j e.hs (sd, (nb : Int)) m4).set e.h (.lst (hsM (e.hs ++ [(sd, (nb : Int))]))) else aft w e.kd e.j e.hs (sd, (nb : Int)) m4) ?_ ?_
      · walk_at "w"
        refine o_eq Fm rfl rfl rfl rfl (by simp [PyData.depth]) ⟨_, rfl, ?_⟩
        rw [eqv_ss]
        by_cases hh : hearR e.kd e.hs (sd, (nb : Int)) = "heard"
        · rw [decide_eq_true hh]
          refine L2.iteT ?_
          walk_at "w"
          refine ix_w Fm (sq_r (aft_lst ek.sv st4.h)) (at_map he) ⟨e.h, _, rfl, aft_lst ek.sv ek.hh, ?_⟩
          walk_at "w"
          refine ⟨[.int sd, .int nb], rfl, Nat.le_of_ble_eq_true rfl, _, aft_lst ek.sv ek.hh, by unfold hsM; rw [List.length_map]; omega, ?_⟩
          refine ws_nil ⟨rfl, ?_⟩
          rw [if_pos hh]
          unfold hsM
          rw [List.map_append]
          rfl
        · rw [decide_eq_false hh]
          exact L2.iteF (ws_nil ⟨rfl, by rw [if_neg hh]⟩)
      · rintro ρ' m ⟨rfl, hm⟩
        have st5 := st4.hear he pb hm
        have hl5 : (es'.set k (hx e (sd, (nb : Int)))).length = es'.length := List.length_set
        clear hm ek
        generalize es'.set k (hx e (sd, (nb : Int))) = es2 at st5 hl5
        generalize hearR e.kd e.hs (sd, (nb : Int)) = due
        clear he hln e st4
        refine ws_cons (ws_for Fm (wi_range1 Fm B.range ?_))
        walk_at "w"
        refine .inl ⟨_, sq_r st5.s, wr_nil ?_⟩
        rw [List.length_map]
        refine ⟨es2.length, rfl, by omega, by omega, ?_⟩
        rw [Int.toNat_natCast]
        refine ⟨fun jj ρ' m' => m' = m ∧ ∃ v12 : Option MV, ρ' = [some (.s ns), some (.r 1), some (.d (.list someD)), some (.r 2), some (.r si), some (.r hi), some (.d (.int t)), some (.d (.int k)), u8', some (.d (.int sd)), some (.d (.int nb)), some (.d (.str due)), v12, u13], ⟨rfl, _, rfl⟩, fun _ _ _ _ _ => trivial, ?_, ?_⟩
        · rintro jj x ρ' m' hx ⟨rfl, v12, rfl⟩
          obtain ⟨hj, rfl⟩ := rangeM_some hx
          rw [Int.zero_add]
          obtain ⟨e, he⟩ : ∃ e, es2[jj]? = some e := ⟨es2[jj], List.getElem?_eq_getElem hj⟩
          have ek := st5.c.en e (List.mem_of_getElem? he)
          have hln2 := ek.ln
          walk_at "w"
          refine we_rows Fm D (by decide) (i := e.i) (j := e.j) (hs := e.hs) ek.ks (by omega) ek.ib ?_
          walk_at "w"
          refine ix_w Fm (sq_r st5.s) (at_map he) ⟨rfl, ek.sv, ?_, ?_, ?_⟩
          · intro hk2
            walk_at "w"
            refine ix_w Fm (sq_r st5.k) (at_map he) ?_
            walk_at "w"
            refine ix_w Fm (sq_r st5.h) (at_map he) ?_
            walk_at "w"
            refine ⟨e.kd, .r e.h, e.hs, rfl, ek.ks, fun t => ⟨ls_r (app_get ek.hh), sq_r (app_get ek.hh)⟩, rfl, by omega, ek.ib, ek.lt, fun _ => ?_, fun ho => absurd ho (by rcases hk2 with z | z <;> rw [z] <;> decide), fun ho => absurd ho (by rcases hk2 with z | z <;> rw [z] <;> decide)⟩
            walk_at "w"
            refine ⟨.tuple [], rfl, ⟨Nat.zero_le _, fun _ h => by simp at h⟩, _, rfl, ?_⟩
            exact L2.iteF (ws_nil (ws_nil ⟨rfl, _, rfl⟩))
          · intro ho us pu su
            walk_at "w"
            refine ix_w Fm (sq_r st5.k) (at_map he) ?_
            walk_at "w"
            refine ix_w Fm (sq_r st5.h) (at_map he) ?_
            walk_at "w"
            refine ⟨e.kd, .r e.h, e.hs, rfl, ek.ks, fun t => ⟨ls_r (app_get ek.hh), sq_r (app_get ek.hh)⟩, rfl, by omega, ek.ib, ek.lt, fun hk2 => absurd ho (by rcases hk2 with z | z <;> rw [z] <;> decide), fun _ vs pv sv => ?_, fun hr => absurd ho (by rw [hr]; decide)⟩
            rw [← rows_one ek.ib pu su pv sv]
            walk_at "w"
            refine ⟨.tuple (us.map fun ns => .tuple (ns.map .int)), rfl, fit_us (by omega) pu, _, rfl, ?_⟩
            exact L2.iteF (ws_nil (ws_nil ⟨rfl, _, rfl⟩))
          · intro hr
            walk_at "w"
            refine ix_w Fm (sq_r st5.k) (at_map he) ?_
            walk_at "w"
            refine ix_w Fm (sq_r st5.h) (at_map he) ?_
            walk_at "w"
            refine ⟨e.kd, .r e.h, e.hs, rfl, ek.ks, fun t => ⟨ls_r (app_get ek.hh), sq_r (app_get ek.hh)⟩, rfl, by omega, ek.ib, ek.lt, fun hk2 => absurd hr (by rcases hk2 with z | z <;> rw [z] <;> decide), fun ho => absurd hr (by rw [ho]; decide), fun _ => ⟨ek.gt hr, ?_⟩⟩
            walk_at "w"
            refine ⟨.tuple (rowT e.hs), rfl, fit_rowT (by omega), _, rfl, ?_⟩
            exact L2.iteF (ws_nil (ws_nil ⟨rfl, _, rfl⟩))
        · rintro ρ' m' ⟨rfl, v12, rfl⟩
          exact ws_nil ⟨_, es2, _, _, _, _, _, _, _, _, rfl, st5, by omega, by omega, by omega⟩
  · rintro ρ' m ⟨n, es, u6, u7, u8, u9, u10, u11, u12, u13, rfl, st, h1, h4, hn⟩
    refine ws_cons (ws_for Fm (wi_range1 Fm B.range ?_))
    walk_at "w"
    refine .inl ⟨_, sq_r st.s, wr_nil ?_⟩
    rw [List.length_map]
    refine ⟨es.length, rfl, by omega, by omega, ?_⟩
    rw [Int.toNat_natCast]
    refine ⟨fun jj ρ' m' => m' = m ∧ ∃ v12 v13 : Option MV, ρ' = [some (.s ns), some (.r 1), some (.d (.list someD)), some (.r 2), some (.r si), some (.r hi), u6, u7, u8, u9, u10, u11, v12, v13], ⟨rfl, _, _, rfl⟩, fun _ _ _ _ _ => trivial, ?_, ?_⟩
    · rintro jj x ρ' m' hx ⟨rfl, v12, v13, rfl⟩
      obtain ⟨hj, rfl⟩ := rangeM_some hx
      rw [Int.zero_add]
      obtain ⟨e, he⟩ : ∃ e, es[jj]? = some e := ⟨es[jj], List.getElem?_eq_getElem hj⟩
      have ek := st.c.en e (List.mem_of_getElem? he)
      obtain ⟨fs, hfs⟩ := sv_cls ek.sv
      walk_at "w"
      · refine b_isO Fm B aL ?_
        walk_at "w"
        refine ix_w Fm (sq_r st.s) (at_map he) ⟨e.i, _, fs, _, rfl, hfs, T.ow ek.ks, T.isL ek.ks, ?_⟩
        walk_at "w"
        refine b_isO Fm B aO ?_
        walk_at "w"
        refine ix_w Fm (sq_r st.s) (at_map he) ⟨e.i, _, fs, _, rfl, hfs, T.ow ek.ks, T.isO ek.ks, ?_⟩
        walk_at "w"
        refine b_isO Fm B aT ?_
        walk_at "w"
        refine ix_w Fm (sq_r st.s) (at_map he) ⟨e.i, _, fs, _, rfl, hfs, T.ow ek.ks, T.isT ek.ks, ?_⟩
        walk_at "w"
        refine ⟨Nat.le_of_ble_eq_true rfl, .inl ⟨[.bool _, .bool _, .bool _], rfl, ?_⟩⟩
        walk_at "w"
        refine ix_w Fm (sq_r st.k) (at_map he) ?_
        walk_at "w"
        refine o_eq Fm rfl rfl rfl rfl (by simp [PyData.depth]) ?_
        rw [eqv_ss]
        walk_at "w"
        refine ix_w Fm (sq_r st.k) (at_map he) ?_
        walk_at "w"
        refine o_eq Fm rfl rfl rfl rfl (by simp [PyData.depth]) ?_
        rw [eqv_ss]
        walk_at "w"
        refine ix_w Fm (sq_r st.k) (at_map he) ?_
        walk_at "w"
        refine o_eq Fm rfl rfl rfl rfl (by simp [PyData.depth]) ?_
        rw [eqv_ss]
        walk_at "w"
        refine ⟨Nat.le_of_ble_eq_true rfl, .inl ⟨[.bool _, .bool _, .bool _], rfl, ?_⟩⟩
        refine o_ne Fm rfl rfl rfl rfl (by simp [PyData.depth, PyData.depthAll]) ⟨_, rfl, ?_⟩
        rw [eqv_b3]
        refine L2.iteF ?_
        walk_at "w"
        refine b_isO Fm B aF ?_
        walk_at "w"
        refine ix_w Fm (sq_r st.s) (at_map he) ⟨e.i, _, fs, _, rfl, hfs, T.ow ek.ks, T.isF ek.ks, ?_⟩
        refine ⟨_, rfl, ?_⟩
        exact L2.iteF (ws_nil (ws_nil ⟨rfl, _, _, rfl⟩))
    · rintro ρ' m' ⟨rfl, v12, v13, rfl⟩
      walk_at "w"
      exact .inl (q _)
end

end Wn
set_option Elab.async false
set_option linter.all false
set_option maxRecDepth 100000
set_option maxHeartbeats 2000000
set_option autoImplicit false
set_option pp.maxSteps 600
namespace Wn
open PySem L2
local macro_rules | `(tactic| walk_at "fam") => `(tactic| first | assumption | exact Fam.blk (by assumption) _ | exact Fam.blk (Fam.blk (by assumption) _) _)
local macro_rules | `(tactic| walk_at "at") => `(tactic| with_reducible first | exact At.z | exact At.s At.z | exact At.s (At.s At.z) | exact At.s (At.s (At.s At.z)) | exact At.s (At.s (At.s (At.s At.z))) | exact At.s (At.s (At.s (At.s (At.s At.z)))) | exact At.s (At.s (At.s (At.s (At.s (At.s At.z))))) | exact At.s (At.s (At.s (At.s (At.s (At.s (At.s At.z)))))) | exact At.s (At.s (At.s (At.s (At.s (At.s (At.s (At.s At.z))))))) | exact At.s (At.s (At.s (At.s (At.s (At.s (At.s (At.s (At.s At.z)))))))) | exact At.s (At.s (At.s (At.s (At.s (At.s (At.s (At.s (At.s (At.s At.z))))))))) | exact At.s (At.s (At.s (At.s (At.s (At.s (At.s (At.s (At.s (At.s (At.s At.z)))))))))) | exact At.s (At.s (At.s (At.s (At.s (At.s (At.s (At.s (At.s (At.s (At.s (At.s At.z))))))))))) | exact At.s (At.s (At.s (At.s (At.s (At.s (At.s (At.s (At.s (At.s (At.s (At.s (At.s At.z)))))))))))) | exact At.s (At.s (At.s (At.s (At.s (At.s (At.s (At.s (At.s (At.s (At.s (At.s (At.s (At.s At.z))))))))))))) | exact At.s (At.s (At.s (At.s (At.s (At.s (At.s (At.s (At.s (At.s (At.s (At.s (At.s (At.s (At.s At.z)))))))))))))) | exact At.s (At.s (At.s (At.s (At.s (At.s (At.s (At.s (At.s (At.s (At.s (At.s (At.s (At.s (At.s (At.s At.z))))))))))))))) | exact At.s (At.s (At.s (At.s (At.s (At.s (At.s (At.s (At.s (At.s (At.s (At.s (At.s (At.s (At.s (At.s (At.s At.z)))))))))))))))) | exact At.s (At.s (At.s (At.s (At.s (At.s (At.s (At.s (At.s (At.s (At.s (At.s (At.s (At.s (At.s (At.s (At.s (At.s At.z))))))))))))))))) | exact At.s (At.s (At.s (At.s (At.s (At.s (At.s (At.s (At.s (At.s (At.s (At.s (At.s (At.s (At.s (At.s (At.s (At.s (At.s At.z)))))))))))))))))) | exact At.s (At.s (At.s (At.s (At.s (At.s (At.s (At.s (At.s (At.s (At.s (At.s (At.s (At.s (At.s (At.s (At.s (At.s (At.s (At.s At.z))))))))))))))))))) | exact At.s (At.s (At.s (At.s (At.s (At.s (At.s (At.s (At.s (At.s (At.s (At.s (At.s (At.s (At.s (At.s (At.s (At.s (At.s (At.s (At.s At.z)))))))))))))))))))))
local macro_rules | `(tactic| walk_at "call") => `(tactic| first
  | ((with_reducible show We _ _ (.Call (.Name "len" _) _ _ _) _ _ _); refine b_lenU (by walk_at "fam") (by assumption) ?_)
  | ((with_reducible show We _ _ (.Call (.Name "isinstance" _) [_, .Name "int" _] _ _) _ _ _); refine b_isiInt (by walk_at "fam") (by assumption) ?_)
  | ((with_reducible show We _ _ (.Call (.Name "isinstance" _) [_, .Name "bool" _] _ _) _ _ _); refine b_isiBool (by walk_at "fam") (by assumption) ?_)
  | ((with_reducible show We _ _ (.Call (.Name "isinstance" _) [_, .Name "tuple" _] _ _) _ _ _); refine b_isiTup (by walk_at "fam") (by assumption) ?_)
  | ((with_reducible show We _ _ (.Call (.Name "isinstance" _) [_, .Name "str" _] _ _) _ _ _); refine b_isi (T := "str") (n := "str") (by walk_at "fam") (by assumption) (Bx.str (by assumption)) bo_str ?_)
  | ((with_reducible show We _ _ (.Call (.Name "max" _) [_, _] _ _) _ _ _); refine b_max2 (by walk_at "fam") (Bx.max (by assumption)) ?_)
  | ((with_reducible show We _ _ (.Call (.Name "dict" _) _ _ _) _ _ _); refine b_dict (by walk_at "fam") (Bx.dict (by assumption)) ?_)
  | ((with_reducible show We _ _ (.Call (.Name "all" _) _ _ _) _ _ _); refine b_all (by walk_at "fam") (Bx.all (by assumption)) ?_)
  | ((with_reducible show We _ _ (.Call (.Name "abs" _) _ _ _) _ _ _); refine b_abs (by walk_at "fam") (by assumption) ?_)
  | ((with_reducible show We _ _ (.Call (.Name "int" _) _ _ _) _ _ _); refine b_intB (by walk_at "fam") (by assumption) ?_)
  | ((with_reducible show We _ _ (.Call (.Name "tuple" _) _ _ _) _ _ _); refine b_tup (by walk_at "fam") (by assumption) ?_)
  | ((with_reducible show We _ _ (.Call (.Name "list" _) [.Call (.Name "range" _) _ _ _] _ _) _ _ _); refine we_listRg (by walk_at "fam") (Bt.list (by assumption)) (Bt.range (by assumption)) ?_)
  | ((with_reducible show We _ _ (.Call (.Name "list" _) _ _ _) _ _ _); refine b_lst (by walk_at "fam") (by assumption) ?_)
  | ((with_reducible show We _ _ (.Call (.Name "min" _) [_, _] _ _) _ _ _); refine b_min2 (by walk_at "fam") (by assumption) ?_)
  | ((with_reducible show We _ _ (.Call (.Name "min" _) [_] [_] _) _ _ _); refine we_minDD (by walk_at "fam") (Bt.min (by assumption)) ?_)
  | ((with_reducible show We _ _ (.Call (.Name "min" _) [_] [] _) _ _ _); refine b_min1 (by walk_at "fam") (by assumption) ?_)
  | ((with_reducible show We _ _ (.Call (.Name "sorted" _) _ _ _) _ _ _); refine b_sorted (by walk_at "fam") (by assumption) ?_)
  | ((with_reducible show We _ _ (.Call (.Attribute _ "append" _) _ _ _) _ _ _); refine we_append (by walk_at "fam") ?_)
  | ((with_reducible show We _ _ (.Call (.Attribute _ "insert" _) [_, _] _ _) _ _ _); refine we_insert (by walk_at "fam") ?_)
  | ((with_reducible show We _ _ (.Call (.Name "max" _) [_] _ _) _ _ _); refine b_maxI (by walk_at "fam") (Bx.max (by assumption)) ?_)
  | ((with_reducible show We _ _ (.Call (.Attribute _ "join" _) [_] _ _) _ _ _); refine we_joinS (by walk_at "fam") ?_)
  | ((with_reducible show We _ _ (.Call (.Attribute _ "setdefault" _) [_, _] _ _) _ _ _); refine we_dsetd (by walk_at "fam") ?_)
  | ((with_reducible show We _ _ (.Call (.Attribute _ "partition" _) [_] _ _) _ _ _); refine we_part (by walk_at "fam") ?_)
  | ((with_reducible show We _ _ (.Call (.Attribute _ "split" _) [_] _ _) _ _ _); refine we_splitS (by walk_at "fam") ?_)
  | ((with_reducible show We _ _ (.Call (.Name "str" _) [_] _ _) _ _ _); refine b_str (by walk_at "fam") (Bx.str (by assumption)) ?_)
  | ((with_reducible show We _ _ (.Call (.Name "any" _) [_] _ _) _ _ _); refine b_any (by walk_at "fam") (by assumption) ?_)
  | ((with_reducible show We _ _ (.Call (.Attribute _ "extend" _) _ _ _) _ _ _); refine we_extend (by walk_at "fam") ?_)
  | ((with_reducible show We _ _ (.Call (.Attribute _ "pop" _) [_, _] _ _) _ _ _); refine we_dpop (by walk_at "fam") ?_)
  | ((with_reducible show We _ _ (.Call (.Name _ _) _ _ _) _ _ _); refine we_call (by walk_at "fam") (by assumption) (by decide) ?_)
  | ((with_reducible show We _ _ (.Call (.Name _ _) [] _ _) _ _ _); refine we_make0 (by walk_at "fam") (by assumption) (by decide) ?_)
  | ((with_reducible show We _ _ (.Call (.Name _ _) _ _ _) _ _ _); refine we_make (by walk_at "fam") (by assumption) (by decide) ?_)
  | ((with_reducible show We _ _ (.Call (.Attribute _ _ _) (_ :: _) _ _) _ _ _); refine we_meth (by walk_at "fam") (by assumption) (by decide) ?_)
  | ((with_reducible show We _ _ (.Call (.Attribute _ _ _) [] _ _) _ _ _); refine we_meth0 (by walk_at "fam") (by assumption) (by decide) ?_))
local macro_rules | `(tactic| walk_at "e") => `(tactic| first
  | ((with_reducible show We _ _ (.Name _ _) _ _ _); first | refine we_varA (by walk_at "fam") (by walk_at "at") (by rfl) ?_ | refine we_gint (by walk_at "fam") (by assumption) ?_ | refine we_gstr (by walk_at "fam") (by assumption) ?_ | refine we_gtup (by walk_at "fam") (by assumption) ?_)
  | ((with_reducible show We _ _ (.Constant _ _ _) _ _ _); first | refine we_int ?_ | refine we_bl ?_ | refine we_non ?_ | refine we_str ?_)
  | ((with_reducible show We _ _ (.BinOp _ _ _ _) _ _ _); refine we_bin ?_)
  | ((with_reducible show We _ _ (.Compare _ [_] _ _) _ _ _); refine we_cmp ?_)
  | ((with_reducible show We _ _ (.Compare _ [_, _] _ _) _ _ _); refine we_chain ?_)
  | ((with_reducible show We _ _ (.BoolOp _ [_] _) _ _ _); refine we_one ?_)
  | ((with_reducible show We _ _ (.BoolOp .And _ _) _ _ _); refine we_and ?_)
  | ((with_reducible show We _ _ (.BoolOp .Or _ _) _ _ _); refine we_or ?_)
  | ((with_reducible show We _ _ (.UnaryOp .Not _ _) _ _ _); refine we_not ?_)
  | ((with_reducible show We _ _ (.UnaryOp .USub _ _) _ _ _); refine we_negI ?_)
  | ((with_reducible show We _ _ (.Dict [] [] _) _ _ _); refine we_dnew ?_)
  | ((with_reducible show We _ _ (.IfExp _ _ _ _) _ _ _); refine we_ifExp ?_)
  | ((with_reducible show We _ _ (.Tuple _ _ _) _ _ _); refine we_tup ?_)
  | ((with_reducible show We _ _ (.List _ _) _ _ _); refine we_lst ?_)
  | ((with_reducible show We _ _ (.Subscript _ (.Slice _ _ _ _) _) _ _ _); refine we_sliceTup (by walk_at "fam") ?_)
  | ((with_reducible show We _ _ (.Subscript _ _ _) _ _ _); refine we_ix ?_)
  | ((with_reducible show We _ _ (.Attribute _ _ _) _ _ _); refine we_fld (by walk_at "fam") ?_)
  | walk_at "call"
  | ((with_reducible show Wo _ _ none _ _ _); refine wo_none ?_)
  | ((with_reducible show Wo _ _ (some _) _ _ _); refine wo_some ?_)
  | ((with_reducible show Wr _ _ [] _ _ _); refine wr_nil ?_)
  | ((with_reducible show Wr _ _ (_ :: _) _ _ _); refine wr_cons ?_)
  | ((with_reducible show Wt _ _ (.UnaryOp .Not _ _) _ _ _); refine wt_not ?_)
  | ((with_reducible show Wt _ _ (.BoolOp .And _ _) _ _ _); refine wt_w (ww_and ?_))
  | ((with_reducible show Wt _ _ (.BoolOp .Or _ _) _ _ _); refine wt_w (ww_or ?_))
  | ((with_reducible show Wt _ _ (.Compare _ [_] _ _) _ _ _); refine wt_cmp ?_)
  | ((with_reducible show Wt _ _ _ _ _ _); refine wt_val ?_)
  | ((with_reducible show Ww _ _ (.BoolOp .And [_] _) _ _ _); refine ww_and1 ?_)
  | ((with_reducible show Ww _ _ (.BoolOp .Or [_] _) _ _ _); refine ww_or1 ?_)
  | ((with_reducible show Ww _ _ (.BoolOp .And _ _) _ _ _); refine ww_and ?_)
  | ((with_reducible show Ww _ _ (.BoolOp .Or _ _) _ _ _); refine ww_or ?_)
  | ((with_reducible show Ws _ _ [] _ _ _); refine ws_nil ?_)
  | ((with_reducible show Ws _ _ (_ :: _) _ _ _); refine ws_cons ?_)
  | ((with_reducible show Ws1 _ _ (.Return (some _) _) _ _ _); refine ws_ret ?_)
  | ((with_reducible show Ws1 _ _ (.If _ _ _ _) _ _ _); refine ws_if ?_)
  | ((with_reducible show Ws1 _ _ (.Expr _ _) _ _ _); refine ws_expr ?_)
  | ((with_reducible show Ws1 _ _ (.Assign [.Name _ _] (.ListComp _ _ _ _) _) _ _ _); fail)
  | ((with_reducible show Ws1 _ _ (.Assign [.Name _ _] _ _) _ _ _); refine ws_setA (by walk_at "fam") (by walk_at "at") ?_)
  | ((with_reducible show Ws1 _ _ (.Assign [.Attribute _ _ _] _ _) _ _ _); refine ws_fld (by walk_at "fam") ?_)
  | ((with_reducible show Ws1 _ _ (.Assign [_] _ _) _ _ _); refine ws_asg ?_)
  | ((with_reducible show Wts _ _ [] _ _ _); refine wts_nil ?_)
  | ((with_reducible show Wts _ _ [_] _ _ _); refine wts_one ?_)
  | ((with_reducible show Wg _ _ _ (.Name _ _) _ _ _ _); refine wg_nameA (by walk_at "fam") (by walk_at "at") ?_)
  | ((with_reducible show Wg _ _ _ (.Tuple _ _ _) _ _ _ _); refine wg_tup (by walk_at "fam") ?_)
  | ((with_reducible show Wg _ _ _ (.Subscript _ _ _) _ _ _ _); refine wg_sub ?_)
  | refine wgs_nil ?_ | refine wgs_cons ?_)
local macro_rules | `(tactic| walk_at "w") => `(tactic| repeat walk_at "e")
theorem all_mk {l : PySem.W.OpenLaw} {w : World} {K : PySem.W.Frag} {h : Heap} {mg : Str → Option Value} {fa : Addr} (X : K.In h) (G : h.Ns mainGlobals mg) (hfa : mg "law" = some (.ref fa))
    {f_mx f_dc f_nx f_sm f_du f_sv f_ro f_fo f_law f_Oi f_Ti f_Ft f_Fr f_Fc f_Lt f_Lr f_Lc f_Ot f_Or f_Oc f_Tt f_Tr f_Tc CF CL CO CT : Addr} {od_mx an_mx od_dc an_dc od_nx an_nx od_sm an_sm od_du an_du od_sv an_sv od_ro an_ro od_fo an_fo od_law an_law od_Oi an_Oi od_Ti an_Ti od_Ft an_Ft od_Fr an_Fr od_Fc an_Fc od_Lt an_Lt od_Lr an_Lr od_Lc an_Lc od_Ot an_Ot od_Or an_Or od_Oc an_Oc od_Tt an_Tt od_Tr an_Tr od_Tc an_Tc : Option Addr} {sl_mx sl_dc sl_nx sl_sm sl_du sl_sv sl_ro sl_fo sl_law sl_Oi sl_Ti sl_Ft sl_Fr sl_Fc sl_Lt sl_Lr sl_Lc sl_Ot sl_Or sl_Oc sl_Tt sl_Tr sl_Tc : Array (Option Value)} {oc_mx kV_mx dc_mx pm_mx cd_mx ct_mx oc_dc kV_dc dc_dc pm_dc cd_dc ct_dc oc_nx kV_nx dc_nx pm_nx cd_nx ct_nx oc_sm kV_sm dc_sm pm_sm cd_sm ct_sm oc_du kV_du dc_du pm_du cd_du ct_du oc_sv kV_sv dc_sv pm_sv cd_sv ct_sv oc_ro kV_ro dc_ro pm_ro cd_ro ct_ro oc_fo kV_fo dc_fo pm_fo cd_fo ct_fo oc_law kV_law dc_law pm_law cd_law ct_law oc_Oi kV_Oi dc_Oi pm_Oi cd_Oi ct_Oi oc_Ti kV_Ti dc_Ti pm_Ti cd_Ti ct_Ti oc_Ft kV_Ft dc_Ft pm_Ft cd_Ft ct_Ft oc_Fr kV_Fr dc_Fr pm_Fr cd_Fr ct_Fr oc_Fc kV_Fc dc_Fc pm_Fc cd_Fc ct_Fc oc_Lt kV_Lt dc_Lt pm_Lt cd_Lt ct_Lt oc_Lr kV_Lr dc_Lr pm_Lr cd_Lr ct_Lr oc_Lc kV_Lc dc_Lc pm_Lc cd_Lc ct_Lc oc_Ot kV_Ot dc_Ot pm_Ot cd_Ot ct_Ot oc_Or kV_Or dc_Or pm_Or cd_Or ct_Or oc_Oc kV_Oc dc_Oc pm_Oc cd_Oc ct_Oc oc_Tt kV_Tt dc_Tt pm_Tt cd_Tt ct_Tt oc_Tr kV_Tr dc_Tr pm_Tr cd_Tr ct_Tr oc_Tc kV_Tc dc_Tc pm_Tc cd_Tc ct_Tc : Value} {q_KINDS : Addr} {qd_KINDS : Option Addr} {qn_KINDS : Nat} {qs_KINDS : Array (Option Value)} {qt0_KINDS qt1_KINDS qt2_KINDS : Tok}
    (aF : PySem.W.nsIn K mainGlobals "Filter" = some (some (.ref CF)))
    (aL : PySem.W.nsIn K mainGlobals "Loose" = some (some (.ref CL)))
    (aO : PySem.W.nsIn K mainGlobals "Once" = some (some (.ref CO)))
    (aT : PySem.W.nsIn K mainGlobals "Turn" = some (some (.ref CT)))
    (a_mx : PySem.W.nsIn K mainGlobals "_law_mixed" = some (some (.ref f_mx)))
    (l_mx : K.lookup f_mx = some ⟨oc_mx, od_mx, .func (PySem.W.fnOf "_law_mixed" "_law_mixed" (defArgs stMixed) (defBody stMixed) (defScope stMixed) .none kV_mx dc_mx pm_mx an_mx cd_mx ct_mx), sl_mx⟩)
    (c_mx : PySem.W.codeIn K cd_mx "_law_mixed" = true)
    (k_mx : PySem.W.keepIn K (.ref f_mx) = true)
    (a_dc : PySem.W.nsIn K mainGlobals "_law_deck" = some (some (.ref f_dc)))
    (l_dc : K.lookup f_dc = some ⟨oc_dc, od_dc, .func (PySem.W.fnOf "_law_deck" "_law_deck" (defArgs stDeck) (defBody stDeck) (defScope stDeck) .none kV_dc dc_dc pm_dc an_dc cd_dc ct_dc), sl_dc⟩)
    (c_dc : PySem.W.codeIn K cd_dc "_law_deck" = true)
    (k_dc : PySem.W.keepIn K (.ref f_dc) = true)
    (a_nx : PySem.W.nsIn K mainGlobals "_law_next" = some (some (.ref f_nx)))
    (l_nx : K.lookup f_nx = some ⟨oc_nx, od_nx, .func (PySem.W.fnOf "_law_next" "_law_next" (defArgs stNext) (defBody stNext) (defScope stNext) .none kV_nx dc_nx pm_nx an_nx cd_nx ct_nx), sl_nx⟩)
    (c_nx : PySem.W.codeIn K cd_nx "_law_next" = true)
    (k_nx : PySem.W.keepIn K (.ref f_nx) = true)
    (a_sm : PySem.W.nsIn K mainGlobals "_law_same" = some (some (.ref f_sm)))
    (l_sm : K.lookup f_sm = some ⟨oc_sm, od_sm, .func (PySem.W.fnOf "_law_same" "_law_same" (defArgs stSame) (defBody stSame) (defScope stSame) .none kV_sm dc_sm pm_sm an_sm cd_sm ct_sm), sl_sm⟩)
    (c_sm : PySem.W.codeIn K cd_sm "_law_same" = true)
    (k_sm : PySem.W.keepIn K (.ref f_sm) = true)
    (a_du : PySem.W.nsIn K mainGlobals "_law_due" = some (some (.ref f_du)))
    (l_du : K.lookup f_du = some ⟨oc_du, od_du, .func (PySem.W.fnOf "_law_due" "_law_due" (defArgs stLDue) (defBody stLDue) (defScope stLDue) .none kV_du dc_du pm_du an_du cd_du ct_du), sl_du⟩)
    (c_du : PySem.W.codeIn K cd_du "_law_due" = true)
    (k_du : PySem.W.keepIn K (.ref f_du) = true)
    (a_sv : PySem.W.nsIn K mainGlobals "_law_sieve" = some (some (.ref f_sv)))
    (l_sv : K.lookup f_sv = some ⟨oc_sv, od_sv, .func (PySem.W.fnOf "_law_sieve" "_law_sieve" (defArgs stLSieve) (defBody stLSieve) (defScope stLSieve) .none kV_sv dc_sv pm_sv an_sv cd_sv ct_sv), sl_sv⟩)
    (c_sv : PySem.W.codeIn K cd_sv "_law_sieve" = true)
    (k_sv : PySem.W.keepIn K (.ref f_sv) = true)
    (a_ro : PySem.W.nsIn K mainGlobals "_law_rows" = some (some (.ref f_ro)))
    (l_ro : K.lookup f_ro = some ⟨oc_ro, od_ro, .func (PySem.W.fnOf "_law_rows" "_law_rows" (defArgs stLRows) (defBody stLRows) (defScope stLRows) .none kV_ro dc_ro pm_ro an_ro cd_ro ct_ro), sl_ro⟩)
    (c_ro : PySem.W.codeIn K cd_ro "_law_rows" = true)
    (k_ro : PySem.W.keepIn K (.ref f_ro) = true)
    (a_fo : PySem.W.nsIn K mainGlobals "filter_of" = some (some (.ref f_fo)))
    (l_fo : K.lookup f_fo = some ⟨oc_fo, od_fo, .func (PySem.W.fnOf "filter_of" "filter_of" (defArgs stFo) (defBody stFo) (defScope stFo) .none kV_fo dc_fo pm_fo an_fo cd_fo ct_fo), sl_fo⟩)
    (c_fo : PySem.W.codeIn K cd_fo "filter_of" = true)
    (k_fo : PySem.W.keepIn K (.ref f_fo) = true)
    (a_law : PySem.W.nsIn K mainGlobals "law" = some (some (.ref f_law)))
    (l_law : K.lookup f_law = some ⟨oc_law, od_law, .func (PySem.W.fnOf "law" "law" (defArgs stLaw) (defBody stLaw) (defScope stLaw) .none kV_law dc_law pm_law an_law cd_law ct_law), sl_law⟩)
    (c_law : PySem.W.codeIn K cd_law "law" = true)
    (k_law : PySem.W.keepIn K (.ref f_law) = true)
    (a_Oi : PySem.W.findIn K (.ref CO) "__init__" = some (some (.ref f_Oi)))
    (i_Oi : PySem.W.isFn K (.ref f_Oi) = true)
    (l_Oi : K.lookup f_Oi = some ⟨oc_Oi, od_Oi, .func (PySem.W.fnOf "__init__" "Once.__init__" (defArgs (stOi)) (defBody (stOi)) (defScope (stOi)) .none kV_Oi dc_Oi pm_Oi an_Oi cd_Oi ct_Oi), sl_Oi⟩)
    (c_Oi : PySem.W.codeIn K cd_Oi "Once.__init__" = true)
    (k_Oi : PySem.W.keepIn K (.ref f_Oi) = true)
    (a_Ti : PySem.W.findIn K (.ref CT) "__init__" = some (some (.ref f_Ti)))
    (i_Ti : PySem.W.isFn K (.ref f_Ti) = true)
    (l_Ti : K.lookup f_Ti = some ⟨oc_Ti, od_Ti, .func (PySem.W.fnOf "__init__" "Turn.__init__" (defArgs (stTi)) (defBody (stTi)) (defScope (stTi)) .none kV_Ti dc_Ti pm_Ti an_Ti cd_Ti ct_Ti), sl_Ti⟩)
    (c_Ti : PySem.W.codeIn K cd_Ti "Turn.__init__" = true)
    (k_Ti : PySem.W.keepIn K (.ref f_Ti) = true)
    (a_Ft : PySem.W.findIn K (.ref CF) "takes" = some (some (.ref f_Ft)))
    (i_Ft : PySem.W.isFn K (.ref f_Ft) = true)
    (l_Ft : K.lookup f_Ft = some ⟨oc_Ft, od_Ft, .func (PySem.W.fnOf "takes" "Filter.takes" (defArgs (stFt)) (defBody (stFt)) (defScope (stFt)) .none kV_Ft dc_Ft pm_Ft an_Ft cd_Ft ct_Ft), sl_Ft⟩)
    (c_Ft : PySem.W.codeIn K cd_Ft "Filter.takes" = true)
    (k_Ft : PySem.W.keepIn K (.ref f_Ft) = true)
    (a_Fr : PySem.W.findIn K (.ref CF) "rows" = some (some (.ref f_Fr)))
    (i_Fr : PySem.W.isFn K (.ref f_Fr) = true)
    (l_Fr : K.lookup f_Fr = some ⟨oc_Fr, od_Fr, .func (PySem.W.fnOf "rows" "Filter.rows" (defArgs (stFr)) (defBody (stFr)) (defScope (stFr)) .none kV_Fr dc_Fr pm_Fr an_Fr cd_Fr ct_Fr), sl_Fr⟩)
    (c_Fr : PySem.W.codeIn K cd_Fr "Filter.rows" = true)
    (k_Fr : PySem.W.keepIn K (.ref f_Fr) = true)
    (a_Fc : PySem.W.findIn K (.ref CF) "copy" = some (some (.ref f_Fc)))
    (i_Fc : PySem.W.isFn K (.ref f_Fc) = true)
    (l_Fc : K.lookup f_Fc = some ⟨oc_Fc, od_Fc, .func (PySem.W.fnOf "copy" "Filter.copy" (defArgs (stFc)) (defBody (stFc)) (defScope (stFc)) .none kV_Fc dc_Fc pm_Fc an_Fc cd_Fc ct_Fc), sl_Fc⟩)
    (c_Fc : PySem.W.codeIn K cd_Fc "Filter.copy" = true)
    (k_Fc : PySem.W.keepIn K (.ref f_Fc) = true)
    (a_Lt : PySem.W.findIn K (.ref CL) "takes" = some (some (.ref f_Lt)))
    (i_Lt : PySem.W.isFn K (.ref f_Lt) = true)
    (l_Lt : K.lookup f_Lt = some ⟨oc_Lt, od_Lt, .func (PySem.W.fnOf "takes" "Loose.takes" (defArgs (stLt)) (defBody (stLt)) (defScope (stLt)) .none kV_Lt dc_Lt pm_Lt an_Lt cd_Lt ct_Lt), sl_Lt⟩)
    (c_Lt : PySem.W.codeIn K cd_Lt "Loose.takes" = true)
    (k_Lt : PySem.W.keepIn K (.ref f_Lt) = true)
    (a_Lr : PySem.W.findIn K (.ref CL) "rows" = some (some (.ref f_Lr)))
    (i_Lr : PySem.W.isFn K (.ref f_Lr) = true)
    (l_Lr : K.lookup f_Lr = some ⟨oc_Lr, od_Lr, .func (PySem.W.fnOf "rows" "Loose.rows" (defArgs (stLr)) (defBody (stLr)) (defScope (stLr)) .none kV_Lr dc_Lr pm_Lr an_Lr cd_Lr ct_Lr), sl_Lr⟩)
    (c_Lr : PySem.W.codeIn K cd_Lr "Loose.rows" = true)
    (k_Lr : PySem.W.keepIn K (.ref f_Lr) = true)
    (a_Lc : PySem.W.findIn K (.ref CL) "copy" = some (some (.ref f_Lc)))
    (i_Lc : PySem.W.isFn K (.ref f_Lc) = true)
    (l_Lc : K.lookup f_Lc = some ⟨oc_Lc, od_Lc, .func (PySem.W.fnOf "copy" "Loose.copy" (defArgs (stLc)) (defBody (stLc)) (defScope (stLc)) .none kV_Lc dc_Lc pm_Lc an_Lc cd_Lc ct_Lc), sl_Lc⟩)
    (c_Lc : PySem.W.codeIn K cd_Lc "Loose.copy" = true)
    (k_Lc : PySem.W.keepIn K (.ref f_Lc) = true)
    (a_Ot : PySem.W.findIn K (.ref CO) "takes" = some (some (.ref f_Ot)))
    (i_Ot : PySem.W.isFn K (.ref f_Ot) = true)
    (l_Ot : K.lookup f_Ot = some ⟨oc_Ot, od_Ot, .func (PySem.W.fnOf "takes" "Once.takes" (defArgs (stOt)) (defBody (stOt)) (defScope (stOt)) .none kV_Ot dc_Ot pm_Ot an_Ot cd_Ot ct_Ot), sl_Ot⟩)
    (c_Ot : PySem.W.codeIn K cd_Ot "Once.takes" = true)
    (k_Ot : PySem.W.keepIn K (.ref f_Ot) = true)
    (a_Or : PySem.W.findIn K (.ref CO) "rows" = some (some (.ref f_Or)))
    (i_Or : PySem.W.isFn K (.ref f_Or) = true)
    (l_Or : K.lookup f_Or = some ⟨oc_Or, od_Or, .func (PySem.W.fnOf "rows" "Once.rows" (defArgs (stOr)) (defBody (stOr)) (defScope (stOr)) .none kV_Or dc_Or pm_Or an_Or cd_Or ct_Or), sl_Or⟩)
    (c_Or : PySem.W.codeIn K cd_Or "Once.rows" = true)
    (k_Or : PySem.W.keepIn K (.ref f_Or) = true)
    (a_Oc : PySem.W.findIn K (.ref CO) "copy" = some (some (.ref f_Oc)))
    (i_Oc : PySem.W.isFn K (.ref f_Oc) = true)
    (l_Oc : K.lookup f_Oc = some ⟨oc_Oc, od_Oc, .func (PySem.W.fnOf "copy" "Once.copy" (defArgs (stOc)) (defBody (stOc)) (defScope (stOc)) .none kV_Oc dc_Oc pm_Oc an_Oc cd_Oc ct_Oc), sl_Oc⟩)
    (c_Oc : PySem.W.codeIn K cd_Oc "Once.copy" = true)
    (k_Oc : PySem.W.keepIn K (.ref f_Oc) = true)
    (a_Tt : PySem.W.findIn K (.ref CT) "takes" = some (some (.ref f_Tt)))
    (i_Tt : PySem.W.isFn K (.ref f_Tt) = true)
    (l_Tt : K.lookup f_Tt = some ⟨oc_Tt, od_Tt, .func (PySem.W.fnOf "takes" "Turn.takes" (defArgs (stTt)) (defBody (stTt)) (defScope (stTt)) .none kV_Tt dc_Tt pm_Tt an_Tt cd_Tt ct_Tt), sl_Tt⟩)
    (c_Tt : PySem.W.codeIn K cd_Tt "Turn.takes" = true)
    (k_Tt : PySem.W.keepIn K (.ref f_Tt) = true)
    (a_Tr : PySem.W.findIn K (.ref CT) "rows" = some (some (.ref f_Tr)))
    (i_Tr : PySem.W.isFn K (.ref f_Tr) = true)
    (l_Tr : K.lookup f_Tr = some ⟨oc_Tr, od_Tr, .func (PySem.W.fnOf "rows" "Turn.rows" (defArgs (stTr)) (defBody (stTr)) (defScope (stTr)) .none kV_Tr dc_Tr pm_Tr an_Tr cd_Tr ct_Tr), sl_Tr⟩)
    (c_Tr : PySem.W.codeIn K cd_Tr "Turn.rows" = true)
    (k_Tr : PySem.W.keepIn K (.ref f_Tr) = true)
    (a_Tc : PySem.W.findIn K (.ref CT) "copy" = some (some (.ref f_Tc)))
    (i_Tc : PySem.W.isFn K (.ref f_Tc) = true)
    (l_Tc : K.lookup f_Tc = some ⟨oc_Tc, od_Tc, .func (PySem.W.fnOf "copy" "Turn.copy" (defArgs (stTc)) (defBody (stTc)) (defScope (stTc)) .none kV_Tc dc_Tc pm_Tc an_Tc cd_Tc ct_Tc), sl_Tc⟩)
    (c_Tc : PySem.W.codeIn K cd_Tc "Turn.copy" = true)
    (k_Tc : PySem.W.keepIn K (.ref f_Tc) = true)
    (pgF : PySem.W.plainGet K CF Str.empty = true)
    (hdF : PySem.W.hasDictIn K CF = true)
    (poF : PySem.W.plainOver K CF = true)
    (saF : PySem.W.findIn K (.ref CF) "__setattr__" = some (some (.builtin "object.__setattr__")))
    (mkF : PySem.W.makesIn K CF = true)
    (kcF : PySem.W.keepIn K (.ref CF) = true)
    (pgL : PySem.W.plainGet K CL Str.empty = true)
    (hdL : PySem.W.hasDictIn K CL = true)
    (poL : PySem.W.plainOver K CL = true)
    (saL : PySem.W.findIn K (.ref CL) "__setattr__" = some (some (.builtin "object.__setattr__")))
    (mkL : PySem.W.makesIn K CL = true)
    (kcL : PySem.W.keepIn K (.ref CL) = true)
    (pgO : PySem.W.plainGet K CO Str.empty = true)
    (hdO : PySem.W.hasDictIn K CO = true)
    (poO : PySem.W.plainOver K CO = true)
    (saO : PySem.W.findIn K (.ref CO) "__setattr__" = some (some (.builtin "object.__setattr__")))
    (mkO : PySem.W.makesIn K CO = true)
    (kcO : PySem.W.keepIn K (.ref CO) = true)
    (pgT : PySem.W.plainGet K CT Str.empty = true)
    (hdT : PySem.W.hasDictIn K CT = true)
    (poT : PySem.W.plainOver K CT = true)
    (saT : PySem.W.findIn K (.ref CT) "__setattr__" = some (some (.builtin "object.__setattr__")))
    (mkT : PySem.W.makesIn K CT = true)
    (kcT : PySem.W.keepIn K (.ref CT) = true)
    (ib_F : PySem.W.findIn K (.ref CF) "__init__" = some (some (.builtin "object.__init__")))
    (mo_F : PySem.W.mroIn K CF (.type "object") = some true)
    (ib_L : PySem.W.findIn K (.ref CL) "__init__" = some (some (.builtin "object.__init__")))
    (mo_L : PySem.W.mroIn K CL (.type "object") = some true)
    (nO_pairs : PySem.W.findIn K (.ref CO) "pairs" = some none)
    (nT_greatest : PySem.W.findIn K (.ref CT) "greatest" = some none)
    (g_KINDS : PySem.W.nsIn K mainGlobals "KINDS" = some (some (.ref q_KINDS)))
    (gl_KINDS : K.lookup q_KINDS = some ⟨.type "tuple", qd_KINDS, .seq #[.str "loose" qt0_KINDS, .str "once" qt1_KINDS, .str "row" qt2_KINDS] qn_KINDS, qs_KINDS⟩)
    (xsp : PySem.W.specialIn K (.builtin "object.__class__") "__get__" = some (some (.builtin "getset_descriptor.__get__")))
    (xta : PySem.W.takesIn K (.builtin "object.__class__") = some true)
    (xc_F : PySem.W.findIn K (.ref CF) "__class__" = some (some (.builtin "object.__class__")))
    (ty_F : PySem.W.typeIn K (.ref CF) = some (.type "type"))
    (xc_L : PySem.W.findIn K (.ref CL) "__class__" = some (some (.builtin "object.__class__")))
    (ty_L : PySem.W.typeIn K (.ref CL) = some (.type "type"))
    (xc_O : PySem.W.findIn K (.ref CO) "__class__" = some (some (.builtin "object.__class__")))
    (ty_O : PySem.W.typeIn K (.ref CO) = some (.type "type"))
    (xc_T : PySem.W.findIn K (.ref CT) "__class__" = some (some (.builtin "object.__class__")))
    (ty_T : PySem.W.typeIn K (.ref CT) = some (.type "type"))
    (mo_O : PySem.W.mroIn K CO (.type "object") = some true)
    (mo_T : PySem.W.mroIn K CT (.type "object") = some true)
    (su_FF : PySem.W.subIn K (.ref CF) (.ref CF) = some true)
    (su_FL : PySem.W.subIn K (.ref CF) (.ref CL) = some false)
    (su_FO : PySem.W.subIn K (.ref CF) (.ref CO) = some false)
    (su_FT : PySem.W.subIn K (.ref CF) (.ref CT) = some false)
    (su_LF : PySem.W.subIn K (.ref CL) (.ref CF) = some true)
    (su_LL : PySem.W.subIn K (.ref CL) (.ref CL) = some true)
    (su_LO : PySem.W.subIn K (.ref CL) (.ref CO) = some false)
    (su_LT : PySem.W.subIn K (.ref CL) (.ref CT) = some false)
    (su_OF : PySem.W.subIn K (.ref CO) (.ref CF) = some true)
    (su_OL : PySem.W.subIn K (.ref CO) (.ref CL) = some false)
    (su_OO : PySem.W.subIn K (.ref CO) (.ref CO) = some true)
    (su_OT : PySem.W.subIn K (.ref CO) (.ref CT) = some false)
    (su_TF : PySem.W.subIn K (.ref CT) (.ref CF) = some true)
    (su_TL : PySem.W.subIn K (.ref CT) (.ref CL) = some false)
    (su_TO : PySem.W.subIn K (.ref CT) (.ref CO) = some false)
    (su_TT : PySem.W.subIn K (.ref CT) (.ref CT) = some true)
    (b_len : PySem.W.nsIn K mainGlobals "len" = some none)
    (b_isinstance : PySem.W.nsIn K mainGlobals "isinstance" = some none)
    (b_int : PySem.W.nsIn K mainGlobals "int" = some none)
    (b_bool : PySem.W.nsIn K mainGlobals "bool" = some none)
    (b_tuple : PySem.W.nsIn K mainGlobals "tuple" = some none)
    (b_list : PySem.W.nsIn K mainGlobals "list" = some none)
    (b_range : PySem.W.nsIn K mainGlobals "range" = some none)
    (b_min : PySem.W.nsIn K mainGlobals "min" = some none)
    (b_abs : PySem.W.nsIn K mainGlobals "abs" = some none)
    (b_sorted : PySem.W.nsIn K mainGlobals "sorted" = some none)
    (b_zip : PySem.W.nsIn K mainGlobals "zip" = some none)
    (b_enumerate : PySem.W.nsIn K mainGlobals "enumerate" = some none)
    (b_all : PySem.W.nsIn K mainGlobals "all" = some none)
    (b_max : PySem.W.nsIn K mainGlobals "max" = some none)
    (b_dict : PySem.W.nsIn K mainGlobals "dict" = some none)
    (b_str : PySem.W.nsIn K mainGlobals "str" = some none) :
    ∃ fd : FuncData, (∀ (s : Shared) (v : Value), BindsTo s fd ⟨[v], []⟩ [("_law_script", v)]) ∧ ∀ base : Heap, K.In base → base.Ns mainGlobals mg → FnOk l.prog w K mg base CX0 5 fa fd ["_law_script"] (spM K sLaw) := by
  have e := hfa.symm.trans (PySem.W.mg_of X G a_law)
  cases e
  have B : Bt mg := ⟨PySem.W.mg_none_of X G b_len, PySem.W.mg_none_of X G b_isinstance, PySem.W.mg_none_of X G b_int, PySem.W.mg_none_of X G b_bool, PySem.W.mg_none_of X G b_tuple, PySem.W.mg_none_of X G b_list, PySem.W.mg_none_of X G b_range, PySem.W.mg_none_of X G b_min, PySem.W.mg_none_of X G b_abs, PySem.W.mg_none_of X G b_sorted, PySem.W.mg_none_of X G b_zip, PySem.W.mg_none_of X G b_enumerate⟩
  have B2 : Bx mg := ⟨PySem.W.mg_none_of X G b_all, PySem.W.mg_none_of X G b_max, PySem.W.mg_none_of X G b_dict, PySem.W.mg_none_of X G b_str⟩
  have Q_KINDS : ∃ a, mg "KINDS" = some (.ref a) ∧ (∀ G, SqT K G a [.str "loose", .str "once", .str "row"]) ∧ ∀ G, DaAll K G [.str "loose", .str "once", .str "row"] [.str "loose", .str "once", .str "row"] := ⟨_, PySem.W.mg_of X G g_KINDS, fun _ => .inr ⟨_, _, _, gl_KINDS, rfl, rfl, by show 3 ≤ sizeLine; decide, .cons ⟨_, rfl⟩ (.cons ⟨_, rfl⟩ (.cons ⟨_, rfl⟩ (.nil)))⟩, fun _ => .cons (.str _) (.cons (.str _) (.cons (.str _) (.nil)))⟩
  have CCF : Cls K CF := ⟨pgF, hdF, poF, saF⟩
  have CCL : Cls K CL := ⟨pgL, hdL, poL, saL⟩
  have CCO : Cls K CO := ⟨pgO, hdO, poO, saO⟩
  have CCT : Cls K CT := ⟨pgT, hdT, poT, saT⟩
  have MB_F : Mb K CF := ⟨mkF, ib_F, kcF, mo_F⟩
  have MB_L : Mb K CL := ⟨mkL, ib_L, kcL, mo_L⟩
  have T : Kf K CF CL CO CT := ⟨CCF, CCL, CCO, CCT, nO_pairs, nT_greatest⟩
  have TK : Kt K CF CL CO CT := ⟨⟨CCF, xc_F, xsp, xta, mo_F⟩, ⟨CCL, xc_L, xsp, xta, mo_L⟩, ⟨CCO, xc_O, xsp, xta, mo_O⟩, ⟨CCT, xc_T, xsp, xta, mo_T⟩, kit_yes hdF ty_F su_FF, kit_no hdL ty_L su_FF su_FL, kit_no hdO ty_O su_FF su_FO, kit_no hdT ty_T su_FF su_FT, kit_yes hdF ty_F su_LF, kit_yes hdL ty_L su_LL, kit_no hdO ty_O su_LL su_LO, kit_no hdT ty_T su_LL su_LT, kit_yes hdF ty_F su_OF, kit_no hdL ty_L su_OO su_OL, kit_yes hdO ty_O su_OO, kit_no hdT ty_T su_OO su_OT, kit_yes hdF ty_F su_TF, kit_no hdL ty_L su_TT su_TL, kit_no hdO ty_O su_TT su_TO, kit_yes hdT ty_T su_TT⟩
  have F_mx := fun_mk (st := stMixed) l_mx c_mx k_mx
  have bmx := F_mx.binds (ps := ["_law_cell", "_law_at"]) fun _ _ _ _ _ _ us hl => match us, hl with | [_, _], _ => rfl
  have F_dc := fun_mk (st := stDeck) l_dc c_dc k_dc
  have bdc := F_dc.binds (ps := ["_law_script"]) fun _ _ _ _ _ _ us hl => match us, hl with | [_], _ => rfl
  have F_nx := fun_mk (st := stNext) l_nx c_nx k_nx
  have bnx := F_nx.binds (ps := ["_law_deck_here", "_law_many"]) fun _ _ _ _ _ _ us hl => match us, hl with | [_, _], _ => rfl
  have F_sm := fun_mk (st := stSame) l_sm c_sm k_sm
  have bsm := F_sm.binds (ps := ["_law_thing", "_law_due_here"]) fun _ _ _ _ _ _ us hl => match us, hl with | [_, _], _ => rfl
  have F_du := fun_mk (st := stLDue) l_du c_du k_du
  have bdu := F_du.binds (ps := ["_law_kind", "_law_heard", "_law_sender", "_law_number"]) fun _ _ _ _ _ _ us hl => match us, hl with | [_, _, _, _], _ => rfl
  have F_sv := fun_mk (st := stLSieve) l_sv c_sv k_sv
  have bsv := F_sv.binds (ps := ["_law_kind", "_law_by_hand"]) fun _ _ _ _ _ _ us hl => match us, hl with | [_, _], _ => rfl
  have F_ro := fun_mk (st := stLRows) l_ro c_ro k_ro
  have bro := F_ro.binds (ps := ["_law_kind", "_law_heard"]) fun _ _ _ _ _ _ us hl => match us, hl with | [_, _], _ => rfl
  have F_fo := fun_mk (st := stFo) l_fo c_fo k_fo
  have bfo := F_fo.binds (ps := ["kind"]) fun _ _ _ _ _ _ us hl => match us, hl with | [_], _ => rfl
  have F_law := fun_mk (st := stLaw) l_law c_law k_law
  have F_Oi := fun_mk (st := (stOi)) l_Oi c_Oi k_Oi
  have bOi := F_Oi.binds (ps := ["self"]) fun _ _ _ _ _ _ us hl => match us, hl with | [_], _ => rfl
  have F_Ti := fun_mk (st := (stTi)) l_Ti c_Ti k_Ti
  have bTi := F_Ti.binds (ps := ["self"]) fun _ _ _ _ _ _ us hl => match us, hl with | [_], _ => rfl
  have F_Ft := fun_mk (st := (stFt)) l_Ft c_Ft k_Ft
  have bFt := F_Ft.binds (ps := ["self", "sender", "number"]) fun _ _ _ _ _ _ us hl => match us, hl with | [_, _, _], _ => rfl
  have F_Fr := fun_mk (st := (stFr)) l_Fr c_Fr k_Fr
  have bFr := F_Fr.binds (ps := ["self"]) fun _ _ _ _ _ _ us hl => match us, hl with | [_], _ => rfl
  have F_Fc := fun_mk (st := (stFc)) l_Fc c_Fc k_Fc
  have bFc := F_Fc.binds (ps := ["self"]) fun _ _ _ _ _ _ us hl => match us, hl with | [_], _ => rfl
  have F_Lt := fun_mk (st := (stLt)) l_Lt c_Lt k_Lt
  have bLt := F_Lt.binds (ps := ["self", "sender", "number"]) fun _ _ _ _ _ _ us hl => match us, hl with | [_, _, _], _ => rfl
  have F_Lr := fun_mk (st := (stLr)) l_Lr c_Lr k_Lr
  have bLr := F_Lr.binds (ps := ["self"]) fun _ _ _ _ _ _ us hl => match us, hl with | [_], _ => rfl
  have F_Lc := fun_mk (st := (stLc)) l_Lc c_Lc k_Lc
  have bLc := F_Lc.binds (ps := ["self"]) fun _ _ _ _ _ _ us hl => match us, hl with | [_], _ => rfl
  have F_Ot := fun_mk (st := (stOt)) l_Ot c_Ot k_Ot
  have bOt := F_Ot.binds (ps := ["self", "sender", "number"]) fun _ _ _ _ _ _ us hl => match us, hl with | [_, _, _], _ => rfl
  have F_Or := fun_mk (st := (stOr)) l_Or c_Or k_Or
  have bOr := F_Or.binds (ps := ["self"]) fun _ _ _ _ _ _ us hl => match us, hl with | [_], _ => rfl
  have F_Oc := fun_mk (st := (stOc)) l_Oc c_Oc k_Oc
  have bOc := F_Oc.binds (ps := ["self"]) fun _ _ _ _ _ _ us hl => match us, hl with | [_], _ => rfl
  have F_Tt := fun_mk (st := (stTt)) l_Tt c_Tt k_Tt
  have bTt := F_Tt.binds (ps := ["self", "sender", "number"]) fun _ _ _ _ _ _ us hl => match us, hl with | [_, _, _], _ => rfl
  have F_Tr := fun_mk (st := (stTr)) l_Tr c_Tr k_Tr
  have bTr := F_Tr.binds (ps := ["self"]) fun _ _ _ _ _ _ us hl => match us, hl with | [_], _ => rfl
  have F_Tc := fun_mk (st := (stTc)) l_Tc c_Tc k_Tc
  have bTc := F_Tc.binds (ps := ["self"]) fun _ _ _ _ _ _ us hl => match us, hl with | [_], _ => rfl
  refine ⟨PySem.W.fnOf "law" "law" (defArgs stLaw) (defBody stLaw) (defScope stLaw) .none kV_law dc_law pm_law an_law cd_law ct_law, fun s v => .of_eq rfl, fun base _ _ => ?_⟩
  have ok_mx := ok_mixed (P := l.prog) (w := w) (mg := mg) (base := base) F_mx
  have U_mx : Cal l.prog w K mg base 1 "_law_mixed" 2 sMixed := ⟨_, _, _, ok_mx, PySem.W.mg_of X G a_mx, k_mx, bmx, rfl⟩
  have ok_dc := ok_deck (P := l.prog) (w := w) (mg := mg) (base := base) F_dc B U_mx
  have U_dc : Cal l.prog w K mg base 2 "_law_deck" 1 sDeck := ⟨_, _, _, ok_dc, PySem.W.mg_of X G a_dc, k_dc, bdc, rfl⟩
  have ok_nx := ok_next (P := l.prog) (w := w) (mg := mg) (base := base) F_nx B U_mx
  have U_nx : Cal l.prog w K mg base 2 "_law_next" 2 sNext := ⟨_, _, _, ok_nx, PySem.W.mg_of X G a_nx, k_nx, bnx, rfl⟩
  have ok_s0 := ok_same (P := l.prog) (w := w) (mg := mg) (base := base) F_sm B B2 0 (fun n' h => nomatch h)
  have U_s0 : Cal l.prog w K mg base 1 "_law_same" 2 (sSame 0) := ⟨_, _, _, ok_s0, PySem.W.mg_of X G a_sm, k_sm, bsm, rfl⟩
  have ok_s1 := ok_same (P := l.prog) (w := w) (mg := mg) (base := base) F_sm B B2 1 (fun n' h => by obtain rfl : n' = 0 := by omega
                                                                                                     exact U_s0)
  have U_s1 : Cal l.prog w K mg base 2 "_law_same" 2 (sSame 1) := ⟨_, _, _, ok_s1, PySem.W.mg_of X G a_sm, k_sm, bsm, rfl⟩
  have ok_s2 := ok_same (P := l.prog) (w := w) (mg := mg) (base := base) F_sm B B2 2 (fun n' h => by obtain rfl : n' = 1 := by omega
                                                                                                     exact U_s1)
  have U_s2 : Cal l.prog w K mg base 3 "_law_same" 2 (sSame 2) := ⟨_, _, _, ok_s2, PySem.W.mg_of X G a_sm, k_sm, bsm, rfl⟩
  have ok_Oi := ok_Oi (P := l.prog) (w := w) (mg := mg) (base := base) F_Oi T
  have U_Oi : Cak l.prog w K mg base 1 CO "Once" (sOi CO w) := ⟨_, _, _, ok_Oi, ⟨mkO, a_Oi, i_Oi, kcO⟩, PySem.W.mg_of X G aO, bOi⟩
  have ok_Ti := ok_Ti (P := l.prog) (w := w) (mg := mg) (base := base) F_Ti T
  have U_Ti : Cak l.prog w K mg base 1 CT "Turn" (sTi CT) := ⟨_, _, _, ok_Ti, ⟨mkT, a_Ti, i_Ti, kcT⟩, PySem.W.mg_of X G aT, bTi⟩
  have ok_Ft := ok_Ft (P := l.prog) (w := w) (mg := mg) (base := base) F_Ft
  have U_Ft : Cam l.prog w K mg base 1 CF "takes" sAtk := ⟨_, _, _, ok_Ft, CCF, ⟨a_Ft, i_Ft, k_Ft⟩, bFt⟩
  have ok_Lt := ok_Lt (P := l.prog) (w := w) (mg := mg) (base := base) F_Lt
  have U_Lt : Cam l.prog w K mg base 1 CL "takes" sAtk := ⟨_, _, _, ok_Lt, CCL, ⟨a_Lt, i_Lt, k_Lt⟩, bLt⟩
  have ok_Ot := ok_Ot (P := l.prog) (w := w) (mg := mg) (base := base) F_Ot T
  have U_Ot : Cam l.prog w K mg base 1 CO "takes" (sOtk w CO) := ⟨_, _, _, ok_Ot, CCO, ⟨a_Ot, i_Ot, k_Ot⟩, bOt⟩
  have ok_Tt := ok_Tt (P := l.prog) (w := w) (mg := mg) (base := base) F_Tt T
  have U_Tt : Cam l.prog w K mg base 1 CT "takes" (sTtk CT) := ⟨_, _, _, ok_Tt, CCT, ⟨a_Tt, i_Tt, k_Tt⟩, bTt⟩
  have ok_Fr := ok_Fr (P := l.prog) (w := w) (mg := mg) (base := base) F_Fr
  have U_Fr : Cam l.prog w K mg base 1 CF "rows" sArw := ⟨_, _, _, ok_Fr, CCF, ⟨a_Fr, i_Fr, k_Fr⟩, bFr⟩
  have ok_Lr := ok_Lr (P := l.prog) (w := w) (mg := mg) (base := base) F_Lr
  have U_Lr : Cam l.prog w K mg base 1 CL "rows" sArw := ⟨_, _, _, ok_Lr, CCL, ⟨a_Lr, i_Lr, k_Lr⟩, bLr⟩
  have ok_Or := ok_Or (P := l.prog) (w := w) (mg := mg) (base := base) F_Or B T
  have U_Or : Cam l.prog w K mg base 1 CO "rows" (sOrw w CO) := ⟨_, _, _, ok_Or, CCO, ⟨a_Or, i_Or, k_Or⟩, bOr⟩
  have ok_Tr := ok_Tr (P := l.prog) (w := w) (mg := mg) (base := base) F_Tr B T
  have U_Tr : Cam l.prog w K mg base 1 CT "rows" (sTrw CT) := ⟨_, _, _, ok_Tr, CCT, ⟨a_Tr, i_Tr, k_Tr⟩, bTr⟩
  have ok_Fc := ok_Fc (P := l.prog) (w := w) (mg := mg) (base := base) F_Fc MB_F (PySem.W.mg_of X G aF)
  have U_Fc : Cam l.prog w K mg base 2 CF "copy" (sAcp CF) := ⟨_, _, _, ok_Fc, CCF, ⟨a_Fc, i_Fc, k_Fc⟩, bFc⟩
  have ok_Lc := ok_Lc (P := l.prog) (w := w) (mg := mg) (base := base) F_Lc MB_L (PySem.W.mg_of X G aL)
  have U_Lc : Cam l.prog w K mg base 2 CL "copy" (sAcp CL) := ⟨_, _, _, ok_Lc, CCL, ⟨a_Lc, i_Lc, k_Lc⟩, bLc⟩
  have ok_Oc := ok_Oc (P := l.prog) (w := w) (mg := mg) (base := base) F_Oc T U_Oi
  have U_Oc : Cam l.prog w K mg base 3 CO "copy" (sOcp w CO) := ⟨_, _, _, ok_Oc, CCO, ⟨a_Oc, i_Oc, k_Oc⟩, bOc⟩
  have ok_Tc := ok_Tc (P := l.prog) (w := w) (mg := mg) (base := base) F_Tc B2 T U_Ti
  have U_Tc : Cam l.prog w K mg base 3 CT "copy" (sTcp CT) := ⟨_, _, _, ok_Tc, CCT, ⟨a_Tc, i_Tc, k_Tc⟩, bTc⟩
  have ok_fo := ok_Fo (P := l.prog) (w := w) (mg := mg) (base := base) F_fo MB_L (PySem.W.mg_of X G aL) U_Oi U_Ti
  have U_fo : Cal l.prog w K mg base 3 "filter_of" 1 (sFo w CL CO CT) := ⟨_, _, _, ok_fo, PySem.W.mg_of X G a_fo, k_fo, bfo, rfl⟩
  have ok_sv := ok_lsieve (P := l.prog) (w := w) (mg := mg) (base := base) F_sv MB_F (PySem.W.mg_of X G aF) MB_L (PySem.W.mg_of X G aL) U_Oi U_Ti U_fo
  have U_sv : Cal l.prog w K mg base 4 "_law_sieve" 2 (sLSieve w CF CL CO CT) := ⟨_, _, _, ok_sv, PySem.W.mg_of X G a_sv, k_sv, bsv, rfl⟩
  have ok_du := ok_ldue (P := l.prog) (w := w) (mg := mg) (base := base) F_du B
  have U_du : Cal l.prog w K mg base 1 "_law_due" 4 sLDue := ⟨_, _, _, ok_du, PySem.W.mg_of X G a_du, k_du, bdu, rfl⟩
  have ok_ro := ok_lrows (P := l.prog) (w := w) (mg := mg) (base := base) F_ro B B2
  have U_ro : Cal l.prog w K mg base 1 "_law_rows" 2 sLRows := ⟨_, _, _, ok_ro, PySem.W.mg_of X G a_ro, k_ro, bro, rfl⟩
  exact ok_law F_law B Q_KINDS ⟨U_Ft, U_Lt, U_Ot, U_Tt, U_Fr, U_Lr, U_Or, U_Tr, U_Fc, U_Lc, U_Oc, U_Tc⟩ TK (PySem.W.mg_of X G aF) (PySem.W.mg_of X G aL) (PySem.W.mg_of X G aO) (PySem.W.mg_of X G aT) U_dc U_nx U_sv U_du U_s2 U_ro
theorem sp_law {K : PySem.W.Frag} {H : Hp} {a : Addr} {ns : List Int} (hS : SqL K H a (ns.map V.int)) : spM K sLaw [.ref a] H (fun v _ => v = .bl true) fun _ _ _ => False :=
  ⟨[], H, [], [.s ns], fun x _ => x = .d (.bool true), ⟨Same.refl _, rfl, List.nodup_nil, fun a ha => by simp at ha, fun i o ho => by simp at ho⟩, .cons ⟨a, rfl, hS⟩ .nil, ⟨ns, rfl, rfl, fun _ => rfl⟩, fun v x π' G' H' m' e hk rv q => by subst q; exact Da.blI rv⟩
theorem walk {l : PySem.W.OpenLaw} {q : Program} {loose : List Str} {XP : (Str → Option Value) → Heap → Prop} {YP : World → Heap → Prop} {d : DefRec} {K : Params → PySem.W.Frag} (hn : l.most = some 63) (hdf : d.params.defaults = [])
    (hY : ∀ (w : World) (h : Heap), YP w h → (K w.params).In h)
    (F : ∀ (w : World) (mg : Str → Option Value) (fa : Addr) (h : Heap), (K w.params).In h → h.Ns mainGlobals mg → mg d.name = some (.ref fa) →
      ∃ fd : FuncData, (∀ (s : Shared) (u : Value), BindsTo s fd ⟨[u], []⟩ [("_law_script", u)]) ∧ ∀ base : Heap, (K w.params).In base → base.Ns mainGlobals mg → FnOk l.prog w (K w.params) mg base CX0 5 fa fd ["_law_script"] (spM (K w.params) sLaw)) :
    PySem.W.WalkO q loose XP YP l.row.toRowW d [] (fun f vs => PySem.call f vs) :=
  L2.walk_of (n := 63) (k := 5) (x := "_law_script") (CX := fun _ => CX0) (sp := fun w => spM (K w.params) sLaw) hn (by decide) hdf ⟨rfl, by decide, by decide⟩ hY F (fun _ _ a ns _ _ hS => sp_law hS) fun _ _ _ _ _ z => z

end Wn
open PySem PySem.W PyProof.Rows
set_option Elab.async false
set_option maxRecDepth 100000 in
set_option maxHeartbeats 0 in
theorem PySem.Challenge.cw_wrapnets_k20_filters_and_copies_holds : PySem.Challenge.rw_wrapnets_k20_filters_and_copies.Holds := by
  w_on; o_law; k_head; (case hw => w_witness2)
  k_fill
  refine Wn.walk (l := PySem.Challenge.rw_wrapnets_k20_filters_and_copies) rfl rfl (fun w h Y => PySem.W.kIn_of Y) ?F
  case F =>
    intro w mg fa h KX G hmg
    refine' Wn.all_mk KX G hmg ?aF ?aL ?aO ?aT ?a_mx ?l_mx ?c_mx ?k_mx ?a_dc ?l_dc ?c_dc ?k_dc ?a_nx ?l_nx ?c_nx ?k_nx ?a_sm ?l_sm ?c_sm ?k_sm ?a_du ?l_du ?c_du ?k_du ?a_sv ?l_sv ?c_sv ?k_sv ?a_ro ?l_ro ?c_ro ?k_ro ?a_fo ?l_fo ?c_fo ?k_fo ?a_law ?l_law ?c_law ?k_law ?a_Oi ?i_Oi ?l_Oi ?c_Oi ?k_Oi ?a_Ti ?i_Ti ?l_Ti ?c_Ti ?k_Ti ?a_Ft ?i_Ft ?l_Ft ?c_Ft ?k_Ft ?a_Fr ?i_Fr ?l_Fr ?c_Fr ?k_Fr ?a_Fc ?i_Fc ?l_Fc ?c_Fc ?k_Fc ?a_Lt ?i_Lt ?l_Lt ?c_Lt ?k_Lt ?a_Lr ?i_Lr ?l_Lr ?c_Lr ?k_Lr ?a_Lc ?i_Lc ?l_Lc ?c_Lc ?k_Lc ?a_Ot ?i_Ot ?l_Ot ?c_Ot ?k_Ot ?a_Or ?i_Or ?l_Or ?c_Or ?k_Or ?a_Oc ?i_Oc ?l_Oc ?c_Oc ?k_Oc ?a_Tt ?i_Tt ?l_Tt ?c_Tt ?k_Tt ?a_Tr ?i_Tr ?l_Tr ?c_Tr ?k_Tr ?a_Tc ?i_Tc ?l_Tc ?c_Tc ?k_Tc ?pgF ?hdF ?poF ?saF ?mkF ?kcF ?pgL ?hdL ?poL ?saL ?mkL ?kcL ?pgO ?hdO ?poO ?saO ?mkO ?kcO ?pgT ?hdT ?poT ?saT ?mkT ?kcT ?ib_F ?mo_F ?ib_L ?mo_L ?nO_pairs ?nT_greatest ?g_KINDS ?gl_KINDS ?xsp ?xta ?xc_F ?ty_F ?xc_L ?ty_L ?xc_O ?ty_O ?xc_T ?ty_T ?mo_O ?mo_T ?su_FF ?su_FL ?su_FO ?su_FT ?su_LF ?su_LL ?su_LO ?su_LT ?su_OF ?su_OL ?su_OO ?su_OT ?su_TF ?su_TL ?su_TO ?su_TT ?b_len ?b_isinstance ?b_int ?b_bool ?b_tuple ?b_list ?b_range ?b_min ?b_abs ?b_sorted ?b_zip ?b_enumerate ?b_all ?b_max ?b_dict ?b_str
    (case aF => k_is)
    (case aL => k_is)
    (case aO => k_is)
    (case aT => k_is)
    (case a_mx => k_is)
    (case l_mx => k_is)
    (case c_mx => k_is)
    (case k_mx => k_is)
    (case a_dc => k_is)
    (case l_dc => k_is)
    (case c_dc => k_is)
    (case k_dc => k_is)
    (case a_nx => k_is)
    (case l_nx => k_is)
    (case c_nx => k_is)
    (case k_nx => k_is)
    (case a_sm => k_is)
    (case l_sm => k_is)
    (case c_sm => k_is)
    (case k_sm => k_is)
    (case a_du => k_is)
    (case l_du => k_is)
    (case c_du => k_is)
    (case k_du => k_is)
    (case a_sv => k_is)
    (case l_sv => k_is)
    (case c_sv => k_is)
    (case k_sv => k_is)
    (case a_ro => k_is)
    (case l_ro => k_is)
    (case c_ro => k_is)
    (case k_ro => k_is)
    (case a_fo => k_is)
    (case l_fo => k_is)
    (case c_fo => k_is)
    (case k_fo => k_is)
    (case a_law => k_is)
    (case l_law => k_is)
    (case c_law => k_is)
    (case k_law => k_is)
    (case a_Oi => k_is)
    (case i_Oi => k_is)
    (case l_Oi => k_is)
    (case c_Oi => k_is)
    (case k_Oi => k_is)
    (case a_Ti => k_is)
    (case i_Ti => k_is)
    (case l_Ti => k_is)
    (case c_Ti => k_is)
    (case k_Ti => k_is)
    (case a_Ft => k_is)
    (case i_Ft => k_is)
    (case l_Ft => k_is)
    (case c_Ft => k_is)
    (case k_Ft => k_is)
    (case a_Fr => k_is)
    (case i_Fr => k_is)
    (case l_Fr => k_is)
    (case c_Fr => k_is)
    (case k_Fr => k_is)
    (case a_Fc => k_is)
    (case i_Fc => k_is)
    (case l_Fc => k_is)
    (case c_Fc => k_is)
    (case k_Fc => k_is)
    (case a_Lt => k_is)
    (case i_Lt => k_is)
    (case l_Lt => k_is)
    (case c_Lt => k_is)
    (case k_Lt => k_is)
    (case a_Lr => k_is)
    (case i_Lr => k_is)
    (case l_Lr => k_is)
    (case c_Lr => k_is)
    (case k_Lr => k_is)
    (case a_Lc => k_is)
    (case i_Lc => k_is)
    (case l_Lc => k_is)
    (case c_Lc => k_is)
    (case k_Lc => k_is)
    (case a_Ot => k_is)
    (case i_Ot => k_is)
    (case l_Ot => k_is)
    (case c_Ot => k_is)
    (case k_Ot => k_is)
    (case a_Or => k_is)
    (case i_Or => k_is)
    (case l_Or => k_is)
    (case c_Or => k_is)
    (case k_Or => k_is)
    (case a_Oc => k_is)
    (case i_Oc => k_is)
    (case l_Oc => k_is)
    (case c_Oc => k_is)
    (case k_Oc => k_is)
    (case a_Tt => k_is)
    (case i_Tt => k_is)
    (case l_Tt => k_is)
    (case c_Tt => k_is)
    (case k_Tt => k_is)
    (case a_Tr => k_is)
    (case i_Tr => k_is)
    (case l_Tr => k_is)
    (case c_Tr => k_is)
    (case k_Tr => k_is)
    (case a_Tc => k_is)
    (case i_Tc => k_is)
    (case l_Tc => k_is)
    (case c_Tc => k_is)
    (case k_Tc => k_is)
    (case pgF => k_is)
    (case hdF => k_is)
    (case poF => k_is)
    (case saF => k_is)
    (case mkF => k_is)
    (case kcF => k_is)
    (case pgL => k_is)
    (case hdL => k_is)
    (case poL => k_is)
    (case saL => k_is)
    (case mkL => k_is)
    (case kcL => k_is)
    (case pgO => k_is)
    (case hdO => k_is)
    (case poO => k_is)
    (case saO => k_is)
    (case mkO => k_is)
    (case kcO => k_is)
    (case pgT => k_is)
    (case hdT => k_is)
    (case poT => k_is)
    (case saT => k_is)
    (case mkT => k_is)
    (case kcT => k_is)
    (case ib_F => k_is)
    (case mo_F => k_is)
    (case ib_L => k_is)
    (case mo_L => k_is)
    (case nO_pairs => k_is)
    (case nT_greatest => k_is)
    (case g_KINDS => k_is)
    (case gl_KINDS => k_is)
    (case xsp => k_is)
    (case xta => k_is)
    (case xc_F => k_is)
    (case ty_F => k_is)
    (case xc_L => k_is)
    (case ty_L => k_is)
    (case xc_O => k_is)
    (case ty_O => k_is)
    (case xc_T => k_is)
    (case ty_T => k_is)
    (case mo_O => k_is)
    (case mo_T => k_is)
    (case su_FF => k_is)
    (case su_FL => k_is)
    (case su_FO => k_is)
    (case su_FT => k_is)
    (case su_LF => k_is)
    (case su_LL => k_is)
    (case su_LO => k_is)
    (case su_LT => k_is)
    (case su_OF => k_is)
    (case su_OL => k_is)
    (case su_OO => k_is)
    (case su_OT => k_is)
    (case su_TF => k_is)
    (case su_TL => k_is)
    (case su_TO => k_is)
    (case su_TT => k_is)
    (case b_len => k_is)
    (case b_isinstance => k_is)
    (case b_int => k_is)
    (case b_bool => k_is)
    (case b_tuple => k_is)
    (case b_list => k_is)
    (case b_range => k_is)
    (case b_min => k_is)
    (case b_abs => k_is)
    (case b_sorted => k_is)
    (case b_zip => k_is)
    (case b_enumerate => k_is)
    (case b_all => k_is)
    (case b_max => k_is)
    (case b_dict => k_is)
    (case b_str => k_is)
